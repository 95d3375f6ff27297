/- The walk of the law FnExactColumnWay: for every length and speeds (whatever ints): the program answers as the model. No condition. -/
import Derived.Test.YthfaljninmcopaaLawBase
import Derived.Test.YthfaljninmcopaaRes8
import Derived.Test.YthfaljninmcopaaCavN
import Derived.Deep.RegionHeld3
import Derived.Deep.DeepCutAuto
namespace Go.Proofs.Ythfaljninmcopaa
open Go.ChangeShapes Go.WideShapes Go.ChangeAt Go.RowKit Go.Joins
set_option maxRecDepth 100000
set_option linter.unusedVariables false
set_option linter.unusedSimpArgs false

set_option maxHeartbeats 6400000 in
theorem columnWay_law (l : Int) (bl : -9223372036854775808 ≤ l ∧ l ≤ 9223372036854775807) (s : Int) (bs : -9223372036854775808 ≤ s ∧ s ≤ 9223372036854775807) (r : Int) (br : -9223372036854775808 ≤ r ∧ r ≤ 9223372036854775807) (w : World)
    (hs : ∀ W : World, Calls Try.prog 30 #[.int .i64 l, .int .i64 s, .int .i64 r] W (fun e w' => e = .returned (.tuple #[.agg #[.int .i64 (twoN (clK l s r) (2 * l * r * r) (r * r - s * s)), .int .i64 (twoD (clK l s r) (2 * l * r * r) (r * r - s * s))], .bool (twoB (clK l s r) (2 * l * r * r) (r * r - s * s))]) ∧ Below W.heap.size W w')) (hi : ∀ W : World, Calls Try.prog 31 #[.int .i64 l, .int .i64 s, .int .i64 r] W (fun e w' => e = .returned (.tuple #[.agg #[.int .i64 (twoN (clK l s r) (2 * l * r * r) (r * r - s * s)), .int .i64 (twoD (clK l s r) (2 * l * r * r) (r * r - s * s))], .bool (twoB (clK l s r) (2 * l * r * r) (r * r - s * s))]) ∧ Below W.heap.size W w')) :
    Calls Try.prog 9 #[.int .i64 l, .int .i64 s, .int .i64 r] w fun e w' => e = .returned (.bool true) ∧ Below w.heap.size w w' := by
  have HS := Lib.hid hs
  have HI := Lib.hid hi
  clear hs hi
  go_enter Try.func9, Try.ntmps9
  go_upto_region 1 with fail
  change Code.wp _ _ _ _ (w)
  have hbw : Below w.heap.size w w := Below.refl _ _
  go_cut [7, 8] (fun s7 s8 wx => ∃ g0 : Nat, s7 = .pointer (some ⟨g0, 0, none⟩) ∧ s8 = .bool (twoB (clK l s r) (2 * l * r * r) (r * r - s * s)) ∧ wx.cell? ⟨g0, 0, none⟩ = some (.int .i64 (twoN (clK l s r) (2 * l * r * r) (r * r - s * s))) ∧ wx.cell? ⟨g0, 1, none⟩ = some (.int .i64 (twoD (clK l s r) (2 * l * r * r) (r * r - s * s))) ∧ g0 < wx.heap.size ∧ Below w.heap.size w wx)
  case first =>
    have hS1 := Lib.hid (fun (W : World) (h : Below w.heap.size w W) => (h : Below w.heap.size w W))
    go_wp2_with fail; refine Calls.mono (HS.out _) ?_; rintro e w3 ⟨rfl, hb3⟩; (try have fr := Res8.later (by first | with_reducible assumption | with_reducible exact Res8.drew (by with_reducible assumption) | exact Res8.newd _ _ _ _ | exact Res8.new _ _ _ _ | exact Res8.drew (Res8.newd _ _ _ _) | exact Res8.drew (Res8.new _ _ _ _)) hb3); (try (have fr2 := fr; obtain ⟨rx, ry, r1, r2, r3, r4, rz⟩ := fr2)); (have f0 := bstep (by first | with_reducible assumption | ((repeat (first | with_reducible exact Below.refl _ _ | with_reducible assumption | with_reducible refine balloc ?_ _ | with_reducible refine bdrew ?_ | with_reducible refine below_drewN ?_ _ | with_reducible refine bset ?_ ?_ _ | with_reducible exact Nat.le_refl _ | with_reducible refine bsize ?_ | (dsimp only; refine Nat.le_trans ?_ (Nat.le_add_right _ _)) | with_reducible refine Nat.le_trans ?_ (Nat.le_add_right _ _) | (with_reducible refine bstep ?_ (by assumption)))); done) : Below w.heap.size w _) hb3); (have f1 := hS1.out _ f0); go_split_ands
    all_goals (go_wp2_with fail; go_meet)
    all_goals refine ⟨_, rfl, rfl, ?_, ?_, ?_, ?_⟩
    all_goals first | ((repeat (first | with_reducible exact Below.refl _ _ | with_reducible assumption | with_reducible refine balloc ?_ _ | with_reducible refine bdrew ?_ | with_reducible refine below_drewN ?_ _ | with_reducible refine bset ?_ ?_ _ | with_reducible exact Nat.le_refl _ | with_reducible refine bsize ?_ | (dsimp only; refine Nat.le_trans ?_ (Nat.le_add_right _ _)) | with_reducible refine Nat.le_trans ?_ (Nat.le_add_right _ _) | (with_reducible refine bstep ?_ (by assumption)))); done) | (simp [go_sem, r1, r2, r3, r4, rz]; done) | (simp [go_sem]; done) | (simp; omega)
  case rest =>
    obtain ⟨g0, rfl, rfl, hg0_0, hg0_1, hg0z, hgb⟩ := hcut
    have hbw2 := bstep hbw hgb
    clear hgb hbw
    go_upto_region 2 with fail
    go_cut [9, 10] (fun s9 s10 wx => ∃ g0 : Nat, s9 = .pointer (some ⟨g0, 0, none⟩) ∧ s10 = .bool (twoB (clK l s r) (2 * l * r * r) (r * r - s * s)) ∧ wx.cell? ⟨g0, 0, none⟩ = some (.int .i64 (twoN (clK l s r) (2 * l * r * r) (r * r - s * s))) ∧ wx.cell? ⟨g0, 1, none⟩ = some (.int .i64 (twoD (clK l s r) (2 * l * r * r) (r * r - s * s))) ∧ g0 < wx.heap.size ∧ Below wc.heap.size wc wx)
    case first =>
      have hS2 := Lib.hid (fun (W : World) (h : Below wc.heap.size wc W) => (h : Below wc.heap.size wc W))
      go_wp2_with fail; refine Calls.mono (HI.out _) ?_; rintro e w3 ⟨rfl, hb3⟩; (try have fr := Res8.later (by first | with_reducible assumption | with_reducible exact Res8.drew (by with_reducible assumption) | exact Res8.newd _ _ _ _ | exact Res8.new _ _ _ _ | exact Res8.drew (Res8.newd _ _ _ _) | exact Res8.drew (Res8.new _ _ _ _)) hb3); (try (have fr2 := fr; obtain ⟨rx, ry, r1, r2, r3, r4, rz⟩ := fr2)); (have f0 := bstep (by first | with_reducible assumption | ((repeat (first | with_reducible exact Below.refl _ _ | with_reducible assumption | with_reducible refine balloc ?_ _ | with_reducible refine bdrew ?_ | with_reducible refine below_drewN ?_ _ | with_reducible refine bset ?_ ?_ _ | with_reducible exact Nat.le_refl _ | with_reducible refine bsize ?_ | (dsimp only; refine Nat.le_trans ?_ (Nat.le_add_right _ _)) | with_reducible refine Nat.le_trans ?_ (Nat.le_add_right _ _) | (with_reducible refine bstep ?_ (by assumption)))); done) : Below wc.heap.size wc _) hb3); (have f1 := hS2.out _ f0); go_split_ands
      all_goals (go_wp2_with fail; go_meet)
      all_goals refine ⟨_, rfl, rfl, ?_, ?_, ?_, ?_⟩
      all_goals first | ((repeat (first | with_reducible exact Below.refl _ _ | with_reducible assumption | with_reducible refine balloc ?_ _ | with_reducible refine bdrew ?_ | with_reducible refine below_drewN ?_ _ | with_reducible refine bset ?_ ?_ _ | with_reducible exact Nat.le_refl _ | with_reducible refine bsize ?_ | (dsimp only; refine Nat.le_trans ?_ (Nat.le_add_right _ _)) | with_reducible refine Nat.le_trans ?_ (Nat.le_add_right _ _) | (with_reducible refine bstep ?_ (by assumption)))); done) | (simp [go_sem, r1, r2, r3, r4, rz]; done) | (simp [go_sem]; done) | (simp; omega)
    case rest =>
      obtain ⟨h0, rfl, rfl, hh0_0, hh0_1, hh0z, hhb⟩ := hcut
      replace hg0_0 := keepa hhb hg0z hg0_0
      replace hg0_1 := keepa hhb hg0z hg0_1
      replace hg0z : g0 < _ := Nat.lt_of_lt_of_le hg0z hhb.size
      have hbw := bstep hbw2 hhb
      clear hhb
      go_wp2_with fail; refine (eq_same _ _ _).mono ?_; rintro e wE0 ⟨rfl, hbE0⟩
      have hbwE0 : Below w.heap.size w wE0 := by (repeat (first | with_reducible exact Below.refl _ _ | with_reducible assumption | with_reducible refine balloc ?_ _ | with_reducible refine bdrew ?_ | with_reducible refine below_drewN ?_ _ | with_reducible refine bset ?_ ?_ _ | with_reducible exact Nat.le_refl _ | with_reducible refine bsize ?_ | (dsimp only; refine Nat.le_trans ?_ (Nat.le_add_right _ _)) | with_reducible refine Nat.le_trans ?_ (Nat.le_add_right _ _) | (with_reducible refine bstep ?_ (by assumption))))
      go_wp2
      go_ret
      refine ⟨rfl, ?_⟩
      (repeat (first | with_reducible exact Below.refl _ _ | with_reducible assumption | with_reducible refine balloc ?_ _ | with_reducible refine bdrew ?_ | with_reducible refine below_drewN ?_ _ | with_reducible refine bset ?_ ?_ _ | with_reducible exact Nat.le_refl _ | with_reducible refine bsize ?_ | (dsimp only; refine Nat.le_trans ?_ (Nat.le_add_right _ _)) | with_reducible refine Nat.le_trans ?_ (Nat.le_add_right _ _) | (with_reducible refine bstep ?_ (by assumption))))
theorem columnWay_walk (l : Int) (bl : -9223372036854775808 ≤ l ∧ l ≤ 9223372036854775807) (s : Int) (bs : -9223372036854775808 ≤ s ∧ s ≤ 9223372036854775807) (r : Int) (br : -9223372036854775808 ≤ r ∧ r ≤ 9223372036854775807) (w : World) :
    Calls Try.prog 9 #[.int .i64 l, .int .i64 s, .int .i64 r] w fun e w' => e = .returned (.bool true) ∧ Below w.heap.size w w' :=
  columnWay_law l bl s bs r br w (fun W => colW_spec l s r W) (fun W => colW_impl l s r bl bs br W)
end Go.Proofs.Ythfaljninmcopaa
