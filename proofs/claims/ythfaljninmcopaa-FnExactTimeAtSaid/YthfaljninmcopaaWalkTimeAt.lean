/- The walk of the law FnExactTimeAt: for every caravan and place (whatever ints): the program answers as the model. No condition. -/
import Derived.Test.YthfaljninmcopaaLawBase
import Derived.Test.YthfaljninmcopaaRes8
import Derived.Test.YthfaljninmcopaaCavG
import Derived.Deep.RegionHeld3
import Derived.Deep.DeepCutAuto
namespace Go.Proofs.Ythfaljninmcopaa
open Go.ChangeShapes Go.WideShapes Go.ChangeAt Go.RowKit Go.Joins
set_option maxRecDepth 100000
set_option linter.unusedVariables false
set_option linter.unusedSimpArgs false

set_option maxHeartbeats 6400000 in
theorem timeAt_law (f s v : Int) (bf : -9223372036854775808 ≤ f ∧ f ≤ 9223372036854775807) (bs : -9223372036854775808 ≤ s ∧ s ≤ 9223372036854775807) (bv : -9223372036854775808 ≤ v ∧ v ≤ 9223372036854775807) (p : Int) (bp : -9223372036854775808 ≤ p ∧ p ≤ 9223372036854775807) (w : World)
    (hs : ∀ W : World, Calls Try.prog 22 #[.agg #[.int .i64 f, .int .i64 s, .int .i64 v], .int .i64 p] W (fun e w' => e = .returned (.tuple #[.agg #[.int .i64 (twoN (tiK f s v p) (p - f + v * s) (v)), .int .i64 (twoD (tiK f s v p) (p - f + v * s) (v))], .bool (twoB (tiK f s v p) (p - f + v * s) (v))]) ∧ Below W.heap.size W w')) (hi : ∀ W : World, Calls Try.prog 23 #[.agg #[.int .i64 f, .int .i64 s, .int .i64 v], .int .i64 p] W (fun e w' => e = .returned (.tuple #[.agg #[.int .i64 (twoN (tiK f s v p) (p - f + v * s) (v)), .int .i64 (twoD (tiK f s v p) (p - f + v * s) (v))], .bool (twoB (tiK f s v p) (p - f + v * s) (v))]) ∧ Below W.heap.size W w')) :
    Calls Try.prog 5 #[.agg #[.int .i64 f, .int .i64 s, .int .i64 v], .int .i64 p] w fun e w' => e = .returned (.bool true) ∧ Below w.heap.size w w' := by
  have HS := Lib.hid hs
  have HI := Lib.hid hi
  clear hs hi
  go_enter Try.func5, Try.ntmps5
  go_upto_region 1 with fail
  change Code.wp _ _ _ _ ((w.alloc (.cells #[.int .i64 f, .int .i64 s, .int .i64 v] 23)))
  have c1 : ((w.alloc (.cells #[.int .i64 f, .int .i64 s, .int .i64 v] 23))).cell? ⟨w.heap.size, 0, none⟩ = some (.int .i64 f) := by first | (simp; done) | (simp [go_sem]; done)
  have c2 : ((w.alloc (.cells #[.int .i64 f, .int .i64 s, .int .i64 v] 23))).cell? ⟨w.heap.size, 1, none⟩ = some (.int .i64 s) := by first | (simp; done) | (simp [go_sem]; done)
  have c3 : ((w.alloc (.cells #[.int .i64 f, .int .i64 s, .int .i64 v] 23))).cell? ⟨w.heap.size, 2, none⟩ = some (.int .i64 v) := by first | (simp; done) | (simp [go_sem]; done)
  have hs : w.heap.size < ((w.alloc (.cells #[.int .i64 f, .int .i64 s, .int .i64 v] 23))).heap.size := by simp
  have hbw : Below w.heap.size w ((w.alloc (.cells #[.int .i64 f, .int .i64 s, .int .i64 v] 23))) := by (repeat (first | with_reducible exact Below.refl _ _ | with_reducible assumption | with_reducible refine balloc ?_ _ | with_reducible refine bdrew ?_ | with_reducible refine below_drewN ?_ _ | with_reducible refine bset ?_ ?_ _ | with_reducible exact Nat.le_refl _ | with_reducible refine bsize ?_ | (dsimp only; refine Nat.le_trans ?_ (Nat.le_add_right _ _)) | with_reducible refine Nat.le_trans ?_ (Nat.le_add_right _ _) | (with_reducible refine bstep ?_ (by assumption))))
  generalize ((w.alloc (.cells #[.int .i64 f, .int .i64 s, .int .i64 v] 23))) = V at *
  have a0 : w.heap.size < V.heap.size := by omega
  go_cut [5, 6] (fun s5 s6 wx => ∃ g0 : Nat, s5 = .pointer (some ⟨g0, 0, none⟩) ∧ s6 = .bool (twoB (tiK f s v p) (p - f + v * s) (v)) ∧ wx.cell? ⟨g0, 0, none⟩ = some (.int .i64 (twoN (tiK f s v p) (p - f + v * s) (v))) ∧ wx.cell? ⟨g0, 1, none⟩ = some (.int .i64 (twoD (tiK f s v p) (p - f + v * s) (v))) ∧ g0 < wx.heap.size ∧ Below V.heap.size V wx)
  case first =>
    have hS1 := Lib.hid (fun (W : World) (h : Below V.heap.size V W) => (⟨h, keepa (W0 := V) h a0 c1, keepa (W0 := V) h a0 c2, keepa (W0 := V) h a0 c3⟩ : Below V.heap.size V W ∧ W.cell? ⟨w.heap.size, 0, none⟩ = some (.int .i64 f) ∧ W.cell? ⟨w.heap.size, 1, none⟩ = some (.int .i64 s) ∧ W.cell? ⟨w.heap.size, 2, none⟩ = some (.int .i64 v)))
    go_wp2_with (first | (go_at_call 16; refine (toCav_b _ _ _ _).mono ?_; rintro e w3 ⟨rfl, hb3⟩; (try have fr := Res8.later (by first | with_reducible assumption | with_reducible exact Res8.drew (by with_reducible assumption) | exact Res8.newd _ _ _ _ | exact Res8.new _ _ _ _ | exact Res8.drew (Res8.newd _ _ _ _) | exact Res8.drew (Res8.new _ _ _ _)) hb3); (try (have fr2 := fr; obtain ⟨rx, ry, r1, r2, r3, r4, rz⟩ := fr2)); (have f0 := bstep (by first | with_reducible assumption | ((repeat (first | with_reducible exact Below.refl _ _ | with_reducible assumption | with_reducible refine balloc ?_ _ | with_reducible refine bdrew ?_ | with_reducible refine below_drewN ?_ _ | with_reducible refine bset ?_ ?_ _ | with_reducible exact Nat.le_refl _ | with_reducible refine bsize ?_ | (dsimp only; refine Nat.le_trans ?_ (Nat.le_add_right _ _)) | with_reducible refine Nat.le_trans ?_ (Nat.le_add_right _ _) | (with_reducible refine bstep ?_ (by assumption)))); done) : Below V.heap.size V _) hb3); (have f1 := hS1.out _ f0); go_split_ands) | (go_at_call 22; refine Calls.mono (HS.out _) ?_; rintro e w3 ⟨rfl, hb3⟩; (try have fr := Res8.later (by first | with_reducible assumption | with_reducible exact Res8.drew (by with_reducible assumption) | exact Res8.newd _ _ _ _ | exact Res8.new _ _ _ _ | exact Res8.drew (Res8.newd _ _ _ _) | exact Res8.drew (Res8.new _ _ _ _)) hb3); (try (have fr2 := fr; obtain ⟨rx, ry, r1, r2, r3, r4, rz⟩ := fr2)); (have f0 := bstep (by first | with_reducible assumption | ((repeat (first | with_reducible exact Below.refl _ _ | with_reducible assumption | with_reducible refine balloc ?_ _ | with_reducible refine bdrew ?_ | with_reducible refine below_drewN ?_ _ | with_reducible refine bset ?_ ?_ _ | with_reducible exact Nat.le_refl _ | with_reducible refine bsize ?_ | (dsimp only; refine Nat.le_trans ?_ (Nat.le_add_right _ _)) | with_reducible refine Nat.le_trans ?_ (Nat.le_add_right _ _) | (with_reducible refine bstep ?_ (by assumption)))); done) : Below V.heap.size V _) hb3); (have f1 := hS1.out _ f0); go_split_ands))
    all_goals (go_wp2_with fail; go_meet)
    all_goals refine ⟨_, rfl, rfl, ?_, ?_, ?_, ?_⟩
    all_goals first | ((repeat (first | with_reducible exact Below.refl _ _ | with_reducible assumption | with_reducible refine balloc ?_ _ | with_reducible refine bdrew ?_ | with_reducible refine below_drewN ?_ _ | with_reducible refine bset ?_ ?_ _ | with_reducible exact Nat.le_refl _ | with_reducible refine bsize ?_ | (dsimp only; refine Nat.le_trans ?_ (Nat.le_add_right _ _)) | with_reducible refine Nat.le_trans ?_ (Nat.le_add_right _ _) | (with_reducible refine bstep ?_ (by assumption)))); done) | (simp [go_sem, r1, r2, r3, r4, rz]; done) | (simp [go_sem]; done) | (simp; omega)
  case rest =>
    obtain ⟨g0, rfl, rfl, hg0_0, hg0_1, hg0z, hgb⟩ := hcut
    replace c1 := keepa hgb a0 c1
    replace c2 := keepa hgb a0 c2
    replace c3 := keepa hgb a0 c3
    replace a0 : w.heap.size < wc.heap.size := Nat.lt_of_lt_of_le a0 hgb.size
    have hbw2 := bstep hbw hgb
    clear hgb hbw
    go_upto_region 2 with fail
    go_cut [7, 8] (fun s7 s8 wx => ∃ g0 : Nat, s7 = .pointer (some ⟨g0, 0, none⟩) ∧ s8 = .bool (twoB (tiK f s v p) (p - f + v * s) (v)) ∧ wx.cell? ⟨g0, 0, none⟩ = some (.int .i64 (twoN (tiK f s v p) (p - f + v * s) (v))) ∧ wx.cell? ⟨g0, 1, none⟩ = some (.int .i64 (twoD (tiK f s v p) (p - f + v * s) (v))) ∧ g0 < wx.heap.size ∧ Below wc.heap.size wc wx)
    case first =>
      have hS2 := Lib.hid (fun (W : World) (h : Below wc.heap.size wc W) => (⟨h, keepa (W0 := wc) h a0 c1, keepa (W0 := wc) h a0 c2, keepa (W0 := wc) h a0 c3⟩ : Below wc.heap.size wc W ∧ W.cell? ⟨w.heap.size, 0, none⟩ = some (.int .i64 f) ∧ W.cell? ⟨w.heap.size, 1, none⟩ = some (.int .i64 s) ∧ W.cell? ⟨w.heap.size, 2, none⟩ = some (.int .i64 v)))
      go_wp2_with (first | (go_at_call 16; refine (toCav_b _ _ _ _).mono ?_; rintro e w3 ⟨rfl, hb3⟩; (try have fr := Res8.later (by first | with_reducible assumption | with_reducible exact Res8.drew (by with_reducible assumption) | exact Res8.newd _ _ _ _ | exact Res8.new _ _ _ _ | exact Res8.drew (Res8.newd _ _ _ _) | exact Res8.drew (Res8.new _ _ _ _)) hb3); (try (have fr2 := fr; obtain ⟨rx, ry, r1, r2, r3, r4, rz⟩ := fr2)); (have f0 := bstep (by first | with_reducible assumption | ((repeat (first | with_reducible exact Below.refl _ _ | with_reducible assumption | with_reducible refine balloc ?_ _ | with_reducible refine bdrew ?_ | with_reducible refine below_drewN ?_ _ | with_reducible refine bset ?_ ?_ _ | with_reducible exact Nat.le_refl _ | with_reducible refine bsize ?_ | (dsimp only; refine Nat.le_trans ?_ (Nat.le_add_right _ _)) | with_reducible refine Nat.le_trans ?_ (Nat.le_add_right _ _) | (with_reducible refine bstep ?_ (by assumption)))); done) : Below wc.heap.size wc _) hb3); (have f1 := hS2.out _ f0); go_split_ands) | (go_at_call 23; refine Calls.mono (HI.out _) ?_; rintro e w3 ⟨rfl, hb3⟩; (try have fr := Res8.later (by first | with_reducible assumption | with_reducible exact Res8.drew (by with_reducible assumption) | exact Res8.newd _ _ _ _ | exact Res8.new _ _ _ _ | exact Res8.drew (Res8.newd _ _ _ _) | exact Res8.drew (Res8.new _ _ _ _)) hb3); (try (have fr2 := fr; obtain ⟨rx, ry, r1, r2, r3, r4, rz⟩ := fr2)); (have f0 := bstep (by first | with_reducible assumption | ((repeat (first | with_reducible exact Below.refl _ _ | with_reducible assumption | with_reducible refine balloc ?_ _ | with_reducible refine bdrew ?_ | with_reducible refine below_drewN ?_ _ | with_reducible refine bset ?_ ?_ _ | with_reducible exact Nat.le_refl _ | with_reducible refine bsize ?_ | (dsimp only; refine Nat.le_trans ?_ (Nat.le_add_right _ _)) | with_reducible refine Nat.le_trans ?_ (Nat.le_add_right _ _) | (with_reducible refine bstep ?_ (by assumption)))); done) : Below wc.heap.size wc _) hb3); (have f1 := hS2.out _ f0); go_split_ands))
      all_goals (go_wp2_with fail; go_meet)
      all_goals refine ⟨_, rfl, rfl, ?_, ?_, ?_, ?_⟩
      all_goals first | ((repeat (first | with_reducible exact Below.refl _ _ | with_reducible assumption | with_reducible refine balloc ?_ _ | with_reducible refine bdrew ?_ | with_reducible refine below_drewN ?_ _ | with_reducible refine bset ?_ ?_ _ | with_reducible exact Nat.le_refl _ | with_reducible refine bsize ?_ | (dsimp only; refine Nat.le_trans ?_ (Nat.le_add_right _ _)) | with_reducible refine Nat.le_trans ?_ (Nat.le_add_right _ _) | (with_reducible refine bstep ?_ (by assumption)))); done) | (simp [go_sem, r1, r2, r3, r4, rz]; done) | (simp [go_sem]; done) | (simp; omega)
    case rest =>
      obtain ⟨h0, rfl, rfl, hh0_0, hh0_1, hh0z, hhb⟩ := hcut
      replace hg0_0 := keepa hhb hg0z hg0_0
      replace hg0_1 := keepa hhb hg0z hg0_1
      replace hg0z : g0 < _ := Nat.lt_of_lt_of_le hg0z hhb.size
      have hbw := bstep hbw2 hhb
      clear hhb
      go_wp2_with fail; refine (eq_same _ _ _).mono ?_; rintro e wE0 ⟨rfl, hbE0⟩
      have hbwE0 : Below w.heap.size w wE0 := by (repeat (first | with_reducible exact Below.refl _ _ | with_reducible assumption | with_reducible refine balloc ?_ _ | with_reducible refine bdrew ?_ | with_reducible refine below_drewN ?_ _ | with_reducible refine bset ?_ ?_ _ | with_reducible exact Nat.le_refl _ | with_reducible refine bsize ?_ | (dsimp only; refine Nat.le_trans ?_ (Nat.le_add_right _ _)) | with_reducible refine Nat.le_trans ?_ (Nat.le_add_right _ _) | (with_reducible refine bstep ?_ (by assumption))))
      go_wp2
      go_ret
      refine ⟨rfl, ?_⟩
      (repeat (first | with_reducible exact Below.refl _ _ | with_reducible assumption | with_reducible refine balloc ?_ _ | with_reducible refine bdrew ?_ | with_reducible refine below_drewN ?_ _ | with_reducible refine bset ?_ ?_ _ | with_reducible exact Nat.le_refl _ | with_reducible refine bsize ?_ | (dsimp only; refine Nat.le_trans ?_ (Nat.le_add_right _ _)) | with_reducible refine Nat.le_trans ?_ (Nat.le_add_right _ _) | (with_reducible refine bstep ?_ (by assumption))))
theorem timeAt_walk (f s v : Int) (bf : -9223372036854775808 ≤ f ∧ f ≤ 9223372036854775807) (bs : -9223372036854775808 ≤ s ∧ s ≤ 9223372036854775807) (bv : -9223372036854775808 ≤ v ∧ v ≤ 9223372036854775807) (p : Int) (bp : -9223372036854775808 ≤ p ∧ p ≤ 9223372036854775807) (w : World) :
    Calls Try.prog 5 #[.agg #[.int .i64 f, .int .i64 s, .int .i64 v], .int .i64 p] w fun e w' => e = .returned (.bool true) ∧ Below w.heap.size w w' :=
  timeAt_law f s v bf bs bv p bp w (fun W => time_spec8 f s v p W) (fun W => time_impl f s v p bv W)
end Go.Proofs.Ythfaljninmcopaa
