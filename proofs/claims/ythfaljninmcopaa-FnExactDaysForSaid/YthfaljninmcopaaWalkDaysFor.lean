/- The walk of the law FnExactDaysFor: for every way, daily way and rest (whatever ints): the program answers as the model. No condition. -/
import Derived.Test.YthfaljninmcopaaLawBase
import Derived.Test.YthfaljninmcopaaCavB
import Derived.Deep.RegionHeld3
import Derived.Deep.DeepCutAuto
namespace Go.Proofs.Ythfaljninmcopaa
open Go.ChangeShapes Go.WideShapes Go.ChangeAt Go.RowKit Go.Joins
set_option maxRecDepth 100000
set_option linter.unusedVariables false
set_option linter.unusedSimpArgs false

set_option maxHeartbeats 6400000 in
theorem daysFor_law (x : Int) (bx : -9223372036854775808 ≤ x ∧ x ≤ 9223372036854775807) (l : Int) (bl : -9223372036854775808 ≤ l ∧ l ≤ 9223372036854775807) (r : Int) (br : -9223372036854775808 ≤ r ∧ r ≤ 9223372036854775807) (w : World)
    (hs : ∀ W : World, Calls Try.prog 36 #[.int .i64 x, .int .i64 l, .int .i64 r] W (fun e w' => e = .returned (.tuple #[.int .i64 (dfV x l r), .bool (dyB x l r)]) ∧ Below W.heap.size W w')) (hi : ∀ W : World, Calls Try.prog 37 #[.int .i64 x, .int .i64 l, .int .i64 r] W (fun e w' => e = .returned (.tuple #[.int .i64 (dfV x l r), .bool (dyB x l r)]) ∧ Below W.heap.size W w')) :
    Calls Try.prog 12 #[.int .i64 x, .int .i64 l, .int .i64 r] w fun e w' => e = .returned (.bool true) ∧ Below w.heap.size w w' := by
  have HS := Lib.hid hs
  have HI := Lib.hid hi
  clear hs hi
  go_enter Try.func12, Try.ntmps12
  go_upto_region 1 with fail
  change Code.wp _ _ _ _ (w)
  have hbw : Below w.heap.size w w := Below.refl _ _
  go_cut [7, 8] (fun s7 s8 wx => s7 = .int .i64 (dfV x l r) ∧ s8 = .bool (dyB x l r) ∧ Below w.heap.size w wx)
  case first =>
    have hS1 := Lib.hid (fun (W : World) (h : Below w.heap.size w W) => (h : Below w.heap.size w W))
    go_wp2_with fail; refine Calls.mono (HS.out _) ?_; rintro e w3 ⟨rfl, hb3⟩; (have f0 := bstep (by first | with_reducible assumption | ((repeat (first | with_reducible exact Below.refl _ _ | with_reducible assumption | with_reducible refine balloc ?_ _ | with_reducible refine bdrew ?_ | with_reducible refine below_drewN ?_ _ | with_reducible refine bset ?_ ?_ _ | with_reducible exact Nat.le_refl _ | with_reducible refine bsize ?_ | (dsimp only; refine Nat.le_trans ?_ (Nat.le_add_right _ _)) | with_reducible refine Nat.le_trans ?_ (Nat.le_add_right _ _) | (with_reducible refine bstep ?_ (by assumption)))); done) : Below w.heap.size w _) hb3); (have f1 := hS1.out _ f0); go_split_ands
    all_goals (go_wp2_with fail; go_meet)
    all_goals refine ⟨rfl, rfl, ?_⟩
    all_goals first | ((repeat (first | with_reducible exact Below.refl _ _ | with_reducible assumption | with_reducible refine balloc ?_ _ | with_reducible refine bdrew ?_ | with_reducible refine below_drewN ?_ _ | with_reducible refine bset ?_ ?_ _ | with_reducible exact Nat.le_refl _ | with_reducible refine bsize ?_ | (dsimp only; refine Nat.le_trans ?_ (Nat.le_add_right _ _)) | with_reducible refine Nat.le_trans ?_ (Nat.le_add_right _ _) | (with_reducible refine bstep ?_ (by assumption)))); done) | (simp [go_sem]; done) | (simp [go_sem]; done) | (simp; omega)
  case rest =>
    obtain ⟨rfl, rfl, hgb⟩ := hcut
    have hbw2 := bstep hbw hgb
    clear hgb hbw
    go_upto_region 2 with fail
    go_cut [9, 10] (fun s9 s10 wx => s9 = .int .i64 (dfV x l r) ∧ s10 = .bool (dyB x l r) ∧ Below wc.heap.size wc wx)
    case first =>
      have hS2 := Lib.hid (fun (W : World) (h : Below wc.heap.size wc W) => (h : Below wc.heap.size wc W))
      go_wp2_with fail; refine Calls.mono (HI.out _) ?_; rintro e w3 ⟨rfl, hb3⟩; (have f0 := bstep (by first | with_reducible assumption | ((repeat (first | with_reducible exact Below.refl _ _ | with_reducible assumption | with_reducible refine balloc ?_ _ | with_reducible refine bdrew ?_ | with_reducible refine below_drewN ?_ _ | with_reducible refine bset ?_ ?_ _ | with_reducible exact Nat.le_refl _ | with_reducible refine bsize ?_ | (dsimp only; refine Nat.le_trans ?_ (Nat.le_add_right _ _)) | with_reducible refine Nat.le_trans ?_ (Nat.le_add_right _ _) | (with_reducible refine bstep ?_ (by assumption)))); done) : Below wc.heap.size wc _) hb3); (have f1 := hS2.out _ f0); go_split_ands
      all_goals (go_wp2_with fail; go_meet)
      all_goals refine ⟨rfl, rfl, ?_⟩
      all_goals first | ((repeat (first | with_reducible exact Below.refl _ _ | with_reducible assumption | with_reducible refine balloc ?_ _ | with_reducible refine bdrew ?_ | with_reducible refine below_drewN ?_ _ | with_reducible refine bset ?_ ?_ _ | with_reducible exact Nat.le_refl _ | with_reducible refine bsize ?_ | (dsimp only; refine Nat.le_trans ?_ (Nat.le_add_right _ _)) | with_reducible refine Nat.le_trans ?_ (Nat.le_add_right _ _) | (with_reducible refine bstep ?_ (by assumption)))); done) | (simp [go_sem]; done) | (simp [go_sem]; done) | (simp; omega)
    case rest =>
      obtain ⟨rfl, rfl, hhb⟩ := hcut
      have hbw := bstep hbw2 hhb
      clear hhb
      go_wp2
      go_ret
      refine ⟨rfl, ?_⟩
      (repeat (first | with_reducible exact Below.refl _ _ | with_reducible assumption | with_reducible refine balloc ?_ _ | with_reducible refine bdrew ?_ | with_reducible refine below_drewN ?_ _ | with_reducible refine bset ?_ ?_ _ | with_reducible exact Nat.le_refl _ | with_reducible refine bsize ?_ | (dsimp only; refine Nat.le_trans ?_ (Nat.le_add_right _ _)) | with_reducible refine Nat.le_trans ?_ (Nat.le_add_right _ _) | (with_reducible refine bstep ?_ (by assumption))))
theorem daysFor_walk (x : Int) (bx : -9223372036854775808 ≤ x ∧ x ≤ 9223372036854775807) (l : Int) (bl : -9223372036854775808 ≤ l ∧ l ≤ 9223372036854775807) (r : Int) (br : -9223372036854775808 ≤ r ∧ r ≤ 9223372036854775807) (w : World) :
    Calls Try.prog 12 #[.int .i64 x, .int .i64 l, .int .i64 r] w fun e w' => e = .returned (.bool true) ∧ Below w.heap.size w w' :=
  daysFor_law x bx l bl r br w (fun W => days_spec x l r W) (fun W => days_impl x l r bx bl W)
end Go.Proofs.Ythfaljninmcopaa
