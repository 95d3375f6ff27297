/- The walk of the law FnExactFalconTurn: for every way, speeds and number (whatever ints): the program answers as the model. No condition. -/
import Derived.Test.YtbaaaaceejgofaaLawBase
import Derived.Test.YtbaaaaceejgofaaRes8
import Derived.Test.YtbaaaaceejgofaaCavR
import Derived.Deep.RegionHeld3
import Derived.Deep.DeepCutAuto
namespace Go.Proofs.Ytbaaaaceejgofaa
open Go.ChangeShapes Go.WideShapes Go.ChangeAt Go.RowKit Go.Joins
set_option maxRecDepth 100000
set_option linter.unusedVariables false
set_option linter.unusedSimpArgs false

set_option maxHeartbeats 6400000 in
theorem falconTurn_law (l : Int) (bl : -9223372036854775808 ≤ l ∧ l ≤ 9223372036854775807) (a : Int) (ba : -9223372036854775808 ≤ a ∧ a ≤ 9223372036854775807) (b : Int) (bb : -9223372036854775808 ≤ b ∧ b ≤ 9223372036854775807) (f : Int) (bf : -9223372036854775808 ≤ f ∧ f ≤ 9223372036854775807) (n : Int) (bn : -9223372036854775808 ≤ n ∧ n ≤ 9223372036854775807) (w : World)
    (hs : ∀ W : World, Calls Try.prog 5 #[.int .i64 l, .int .i64 a, .int .i64 b, .int .i64 f, .int .i64 n] W (fun e w' => e = .returned (.tuple #[.agg #[.int .i64 (ftX l a b f n), .int .i64 (ftY l a b f n)], .bool (ftOk l a b f n)]) ∧ Below W.heap.size W w')) (hi : ∀ W : World, Calls Try.prog 6 #[.int .i64 l, .int .i64 a, .int .i64 b, .int .i64 f, .int .i64 n] W (fun e w' => e = .returned (.tuple #[.agg #[.int .i64 (ftX l a b f n), .int .i64 (ftY l a b f n)], .bool (ftOk l a b f n)]) ∧ Below W.heap.size W w')) :
    Calls Try.prog 3 #[.int .i64 l, .int .i64 a, .int .i64 b, .int .i64 f, .int .i64 n] w fun e w' => e = .returned (.bool true) ∧ Below w.heap.size w w' := by
  have HS := Lib.hid hs
  have HI := Lib.hid hi
  clear hs hi
  go_enter Try.func3, Try.ntmps3
  go_upto_region 1 with fail
  change Code.wp _ _ _ _ (w)
  have hbw : Below w.heap.size w w := Below.refl _ _
  go_cut [11, 12] (fun s11 s12 wx => ∃ g0 : Nat, s11 = .pointer (some ⟨g0, 0, none⟩) ∧ s12 = .bool (ftOk l a b f n) ∧ wx.cell? ⟨g0, 0, none⟩ = some (.int .i64 (ftX l a b f n)) ∧ wx.cell? ⟨g0, 1, none⟩ = some (.int .i64 (ftY l a b f n)) ∧ g0 < wx.heap.size ∧ Below w.heap.size w wx)
  case first =>
    have hS1 := Lib.hid (fun (W : World) (h : Below w.heap.size w W) => (h : Below w.heap.size w W))
    go_wp2_with fail; refine Calls.mono (HS.out _) ?_; rintro e w3 ⟨rfl, hb3⟩; (try have fr := Res8.later (by first | with_reducible assumption | with_reducible exact Res8.drew (by with_reducible assumption) | exact Res8.newd _ _ _ _ | exact Res8.new _ _ _ _ | exact Res8.drew (Res8.newd _ _ _ _) | exact Res8.drew (Res8.new _ _ _ _)) hb3); (try (have fr2 := fr; obtain ⟨rx, ry, r1, r2, r3, r4, rz⟩ := fr2)); (have f0 := bstep (by first | with_reducible assumption | ((repeat (first | with_reducible exact Below.refl _ _ | with_reducible assumption | with_reducible refine balloc ?_ _ | with_reducible refine bdrew ?_ | with_reducible refine below_drewN ?_ _ | with_reducible refine bset ?_ ?_ _ | with_reducible exact Nat.le_refl _ | with_reducible refine bsize ?_ | (dsimp only; refine Nat.le_trans ?_ (Nat.le_add_right _ _)) | with_reducible refine Nat.le_trans ?_ (Nat.le_add_right _ _) | (with_reducible refine bstep ?_ (by assumption)))); done) : Below w.heap.size w _) hb3); (have f1 := hS1.out _ f0); go_split_ands
    all_goals (go_wp2_with fail; go_meet)
    all_goals refine ⟨_, rfl, rfl, ?_, ?_, ?_, ?_⟩
    all_goals first | ((repeat (first | with_reducible exact Below.refl _ _ | with_reducible assumption | with_reducible refine balloc ?_ _ | with_reducible refine bdrew ?_ | with_reducible refine below_drewN ?_ _ | with_reducible refine bset ?_ ?_ _ | with_reducible exact Nat.le_refl _ | with_reducible refine bsize ?_ | (dsimp only; refine Nat.le_trans ?_ (Nat.le_add_right _ _)) | with_reducible refine Nat.le_trans ?_ (Nat.le_add_right _ _) | (with_reducible refine bstep ?_ (by assumption)))); done) | (simp [go_sem, r1, r2, r3, r4, rz]; done) | (simp [go_sem]; done) | (simp; omega)
  case rest =>
    obtain ⟨g0, rfl, rfl, hg0_0, hg0_1, hg0z, hgb⟩ := hcut
    have hbw2 := bstep hbw hgb
    clear hgb hbw
    go_upto_region 2 with fail
    go_cut [13, 14] (fun s13 s14 wx => ∃ g0 : Nat, s13 = .pointer (some ⟨g0, 0, none⟩) ∧ s14 = .bool (ftOk l a b f n) ∧ wx.cell? ⟨g0, 0, none⟩ = some (.int .i64 (ftX l a b f n)) ∧ wx.cell? ⟨g0, 1, none⟩ = some (.int .i64 (ftY l a b f n)) ∧ g0 < wx.heap.size ∧ Below wc.heap.size wc wx)
    case first =>
      have hS2 := Lib.hid (fun (W : World) (h : Below wc.heap.size wc W) => (h : Below wc.heap.size wc W))
      go_wp2_with fail; refine Calls.mono (HI.out _) ?_; rintro e w3 ⟨rfl, hb3⟩; (try have fr := Res8.later (by first | with_reducible assumption | with_reducible exact Res8.drew (by with_reducible assumption) | exact Res8.newd _ _ _ _ | exact Res8.new _ _ _ _ | exact Res8.drew (Res8.newd _ _ _ _) | exact Res8.drew (Res8.new _ _ _ _)) hb3); (try (have fr2 := fr; obtain ⟨rx, ry, r1, r2, r3, r4, rz⟩ := fr2)); (have f0 := bstep (by first | with_reducible assumption | ((repeat (first | with_reducible exact Below.refl _ _ | with_reducible assumption | with_reducible refine balloc ?_ _ | with_reducible refine bdrew ?_ | with_reducible refine below_drewN ?_ _ | with_reducible refine bset ?_ ?_ _ | with_reducible exact Nat.le_refl _ | with_reducible refine bsize ?_ | (dsimp only; refine Nat.le_trans ?_ (Nat.le_add_right _ _)) | with_reducible refine Nat.le_trans ?_ (Nat.le_add_right _ _) | (with_reducible refine bstep ?_ (by assumption)))); done) : Below wc.heap.size wc _) hb3); (have f1 := hS2.out _ f0); go_split_ands
      all_goals (go_wp2_with fail; go_meet)
      all_goals refine ⟨_, rfl, rfl, ?_, ?_, ?_, ?_⟩
      all_goals first | ((repeat (first | with_reducible exact Below.refl _ _ | with_reducible assumption | with_reducible refine balloc ?_ _ | with_reducible refine bdrew ?_ | with_reducible refine below_drewN ?_ _ | with_reducible refine bset ?_ ?_ _ | with_reducible exact Nat.le_refl _ | with_reducible refine bsize ?_ | (dsimp only; refine Nat.le_trans ?_ (Nat.le_add_right _ _)) | with_reducible refine Nat.le_trans ?_ (Nat.le_add_right _ _) | (with_reducible refine bstep ?_ (by assumption)))); done) | (simp [go_sem, r1, r2, r3, r4, rz]; done) | (simp [go_sem]; done) | (simp; omega)
    case rest =>
      obtain ⟨h0, rfl, rfl, hh0_0, hh0_1, hh0z, hhb⟩ := hcut
      replace hg0_0 := keepa hhb hg0z hg0_0
      replace hg0_1 := keepa hhb hg0z hg0_1
      replace hg0z : g0 < _ := Nat.lt_of_lt_of_le hg0z hhb.size
      have hbw := bstep hbw2 hhb
      clear hhb
      go_wp2_with fail; refine (eq_same _ _ _).mono ?_; rintro e wE0 ⟨rfl, hbE0⟩
      have hbwE0 : Below w.heap.size w wE0 := by (repeat (first | with_reducible exact Below.refl _ _ | with_reducible assumption | with_reducible refine balloc ?_ _ | with_reducible refine bdrew ?_ | with_reducible refine below_drewN ?_ _ | with_reducible refine bset ?_ ?_ _ | with_reducible exact Nat.le_refl _ | with_reducible refine bsize ?_ | (dsimp only; refine Nat.le_trans ?_ (Nat.le_add_right _ _)) | with_reducible refine Nat.le_trans ?_ (Nat.le_add_right _ _) | (with_reducible refine bstep ?_ (by assumption))))
      go_wp2
      go_ret
      refine ⟨rfl, ?_⟩
      (repeat (first | with_reducible exact Below.refl _ _ | with_reducible assumption | with_reducible refine balloc ?_ _ | with_reducible refine bdrew ?_ | with_reducible refine below_drewN ?_ _ | with_reducible refine bset ?_ ?_ _ | with_reducible exact Nat.le_refl _ | with_reducible refine bsize ?_ | (dsimp only; refine Nat.le_trans ?_ (Nat.le_add_right _ _)) | with_reducible refine Nat.le_trans ?_ (Nat.le_add_right _ _) | (with_reducible refine bstep ?_ (by assumption))))
theorem falconTurn_walk (l : Int) (bl : -9223372036854775808 ≤ l ∧ l ≤ 9223372036854775807) (a : Int) (ba : -9223372036854775808 ≤ a ∧ a ≤ 9223372036854775807) (b : Int) (bb : -9223372036854775808 ≤ b ∧ b ≤ 9223372036854775807) (f : Int) (bf : -9223372036854775808 ≤ f ∧ f ≤ 9223372036854775807) (n : Int) (bn : -9223372036854775808 ≤ n ∧ n ≤ 9223372036854775807) (w : World) :
    Calls Try.prog 3 #[.int .i64 l, .int .i64 a, .int .i64 b, .int .i64 f, .int .i64 n] w fun e w' => e = .returned (.bool true) ∧ Below w.heap.size w w' :=
  falconTurn_law l bl a ba b bb f bf n bn w (fun W => fturn_spec l a b f n W) (fun W => fturn_impl l a b f n bl ba bb bf W)
end Go.Proofs.Ytbaaaaceejgofaa
