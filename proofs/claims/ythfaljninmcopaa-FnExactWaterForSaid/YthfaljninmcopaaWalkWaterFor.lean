/- The walk of the law FnExactWaterFor: for all people, camels, days and loads (whatever ints): the program answers as the model. No condition. -/
import Derived.Test.YthfaljninmcopaaLawBase
import Derived.Test.YthfaljninmcopaaCavD
import Derived.Deep.RegionHeld3
import Derived.Deep.DeepCutAuto
namespace Go.Proofs.Ythfaljninmcopaa
open Go.ChangeShapes Go.WideShapes Go.ChangeAt Go.RowKit Go.Joins
set_option maxRecDepth 100000
set_option linter.unusedVariables false
set_option linter.unusedSimpArgs false

set_option maxHeartbeats 6400000 in
theorem waterFor_law (p : Int) (bp : -9223372036854775808 ≤ p ∧ p ≤ 9223372036854775807) (c : Int) (bc : -9223372036854775808 ≤ c ∧ c ≤ 9223372036854775807) (d : Int) (bd : -9223372036854775808 ≤ d ∧ d ≤ 9223372036854775807) (t : Int) (bt : -9223372036854775808 ≤ t ∧ t ≤ 9223372036854775807) (w : World)
    (hs : ∀ W : World, Calls Try.prog 40 #[.int .i64 p, .int .i64 c, .int .i64 d, .int .i64 t] W (fun e w' => e = .returned (.tuple #[.int .i64 (wfW p c d t), .int .i64 (wfL p c d t), .bool (wfB p c d t)]) ∧ Below W.heap.size W w')) (hi : ∀ W : World, Calls Try.prog 41 #[.int .i64 p, .int .i64 c, .int .i64 d, .int .i64 t] W (fun e w' => e = .returned (.tuple #[.int .i64 (wfW p c d t), .int .i64 (wfL p c d t), .bool (wfB p c d t)]) ∧ Below W.heap.size W w')) :
    Calls Try.prog 14 #[.int .i64 p, .int .i64 c, .int .i64 d, .int .i64 t] w fun e w' => e = .returned (.bool true) ∧ Below w.heap.size w w' := by
  have HS := Lib.hid hs
  have HI := Lib.hid hi
  clear hs hi
  go_enter Try.func14, Try.ntmps14
  go_upto_region 1 with fail
  change Code.wp _ _ _ _ (w)
  have hbw : Below w.heap.size w w := Below.refl _ _
  go_cut [9, 10, 11] (fun s9 s10 s11 wx => s9 = .int .i64 (wfW p c d t) ∧ s10 = .int .i64 (wfL p c d t) ∧ s11 = .bool (wfB p c d t) ∧ Below w.heap.size w wx)
  case first =>
    have hS1 := Lib.hid (fun (W : World) (h : Below w.heap.size w W) => (h : Below w.heap.size w W))
    go_wp2_with fail; refine Calls.mono (HS.out _) ?_; rintro e w3 ⟨rfl, hb3⟩; (have f0 := bstep (by first | with_reducible assumption | ((repeat (first | with_reducible exact Below.refl _ _ | with_reducible assumption | with_reducible refine balloc ?_ _ | with_reducible refine bdrew ?_ | with_reducible refine below_drewN ?_ _ | with_reducible refine bset ?_ ?_ _ | with_reducible exact Nat.le_refl _ | with_reducible refine bsize ?_ | (dsimp only; refine Nat.le_trans ?_ (Nat.le_add_right _ _)) | with_reducible refine Nat.le_trans ?_ (Nat.le_add_right _ _) | (with_reducible refine bstep ?_ (by assumption)))); done) : Below w.heap.size w _) hb3); (have f1 := hS1.out _ f0); go_split_ands
    all_goals (go_wp2_with fail; go_meet)
    all_goals refine ⟨rfl, rfl, rfl, ?_⟩
    all_goals first | ((repeat (first | with_reducible exact Below.refl _ _ | with_reducible assumption | with_reducible refine balloc ?_ _ | with_reducible refine bdrew ?_ | with_reducible refine below_drewN ?_ _ | with_reducible refine bset ?_ ?_ _ | with_reducible exact Nat.le_refl _ | with_reducible refine bsize ?_ | (dsimp only; refine Nat.le_trans ?_ (Nat.le_add_right _ _)) | with_reducible refine Nat.le_trans ?_ (Nat.le_add_right _ _) | (with_reducible refine bstep ?_ (by assumption)))); done) | (simp [go_sem]; done) | (simp [go_sem]; done) | (simp; omega)
  case rest =>
    obtain ⟨rfl, rfl, rfl, hgb⟩ := hcut
    have hbw2 := bstep hbw hgb
    clear hgb hbw
    go_upto_region 2 with fail
    go_cut [12, 13, 14] (fun s12 s13 s14 wx => s12 = .int .i64 (wfW p c d t) ∧ s13 = .int .i64 (wfL p c d t) ∧ s14 = .bool (wfB p c d t) ∧ Below wc.heap.size wc wx)
    case first =>
      have hS2 := Lib.hid (fun (W : World) (h : Below wc.heap.size wc W) => (h : Below wc.heap.size wc W))
      go_wp2_with fail; refine Calls.mono (HI.out _) ?_; rintro e w3 ⟨rfl, hb3⟩; (have f0 := bstep (by first | with_reducible assumption | ((repeat (first | with_reducible exact Below.refl _ _ | with_reducible assumption | with_reducible refine balloc ?_ _ | with_reducible refine bdrew ?_ | with_reducible refine below_drewN ?_ _ | with_reducible refine bset ?_ ?_ _ | with_reducible exact Nat.le_refl _ | with_reducible refine bsize ?_ | (dsimp only; refine Nat.le_trans ?_ (Nat.le_add_right _ _)) | with_reducible refine Nat.le_trans ?_ (Nat.le_add_right _ _) | (with_reducible refine bstep ?_ (by assumption)))); done) : Below wc.heap.size wc _) hb3); (have f1 := hS2.out _ f0); go_split_ands
      all_goals (go_wp2_with fail; go_meet)
      all_goals refine ⟨rfl, rfl, rfl, ?_⟩
      all_goals first | ((repeat (first | with_reducible exact Below.refl _ _ | with_reducible assumption | with_reducible refine balloc ?_ _ | with_reducible refine bdrew ?_ | with_reducible refine below_drewN ?_ _ | with_reducible refine bset ?_ ?_ _ | with_reducible exact Nat.le_refl _ | with_reducible refine bsize ?_ | (dsimp only; refine Nat.le_trans ?_ (Nat.le_add_right _ _)) | with_reducible refine Nat.le_trans ?_ (Nat.le_add_right _ _) | (with_reducible refine bstep ?_ (by assumption)))); done) | (simp [go_sem]; done) | (simp [go_sem]; done) | (simp; omega)
    case rest =>
      obtain ⟨rfl, rfl, rfl, hhb⟩ := hcut
      have hbw := bstep hbw2 hhb
      clear hhb
      go_wp2
      go_ret
      refine ⟨rfl, ?_⟩
      (repeat (first | with_reducible exact Below.refl _ _ | with_reducible assumption | with_reducible refine balloc ?_ _ | with_reducible refine bdrew ?_ | with_reducible refine below_drewN ?_ _ | with_reducible refine bset ?_ ?_ _ | with_reducible exact Nat.le_refl _ | with_reducible refine bsize ?_ | (dsimp only; refine Nat.le_trans ?_ (Nat.le_add_right _ _)) | with_reducible refine Nat.le_trans ?_ (Nat.le_add_right _ _) | (with_reducible refine bstep ?_ (by assumption))))
theorem waterFor_walk (p : Int) (bp : -9223372036854775808 ≤ p ∧ p ≤ 9223372036854775807) (c : Int) (bc : -9223372036854775808 ≤ c ∧ c ≤ 9223372036854775807) (d : Int) (bd : -9223372036854775808 ≤ d ∧ d ≤ 9223372036854775807) (t : Int) (bt : -9223372036854775808 ≤ t ∧ t ≤ 9223372036854775807) (w : World) :
    Calls Try.prog 14 #[.int .i64 p, .int .i64 c, .int .i64 d, .int .i64 t] w fun e w' => e = .returned (.bool true) ∧ Below w.heap.size w w' :=
  waterFor_law p bp c bc d bd t bt w (fun W => water_spec p c d t bt W) (fun W => water_impl p c d t bt W)
end Go.Proofs.Ythfaljninmcopaa
