/- Caravans that catch up: how far ahead one is, of the program. -/
import Derived.Test.YthfaljninmcopaaCavI
import Derived.Deep.DeepCutAuto
namespace Go.Proofs.Ythfaljninmcopaa
open Go.ChangeShapes Go.WideShapes Go.ChangeAt Go.RowKit Go.Joins
set_option maxRecDepth 100000
set_option linter.unusedVariables false
set_option linter.unusedSimpArgs false

theorem whole8 (k : Int) (w : World) :
    Calls Try.prog 56 #[.int .i64 k] w fun e w' => e = .returned (.agg #[.int .i64 k, .int .i64 1]) ∧ Below w.heap.size w w' := by
  go_enter Try.func56, Try.ntmps56
  go_wp2
  exact bodyPost_ret (v := .agg #[.int .i64 k, .int .i64 1]) (by simp [results, Try.results56, go_sem]) rfl ⟨rfl, by (repeat (first | with_reducible exact Below.refl _ _ | with_reducible assumption | with_reducible refine balloc ?_ _ | with_reducible refine bdrew ?_ | with_reducible refine below_drewN ?_ _ | with_reducible refine bset ?_ ?_ _ | with_reducible exact Nat.le_refl _ | with_reducible refine bsize ?_ | (dsimp only; refine Nat.le_trans ?_ (Nat.le_add_right _ _)) | with_reducible refine Nat.le_trans ?_ (Nat.le_add_right _ _) | (with_reducible refine bstep ?_ (by assumption))))⟩
set_option maxHeartbeats 6400000 in
theorem lead_impl (f s v f' s' v' t : Int) (h1 : crB f s v = true) (h2 : crB f' s' v' = true) (ht : 0 ≤ t ∧ t ≤ 1000) (w : World) :
    Calls Try.prog 55 #[.agg #[.int .i64 f, .int .i64 s, .int .i64 v], .agg #[.int .i64 f', .int .i64 s', .int .i64 v'], .int .i64 t] w fun e w' => e = .returned (.int .i64 (cpN f' s' v' t 1 - cpN f s v t 1)) ∧ Below w.heap.size w w' := by
  obtain ⟨f0, s0, v0⟩ := crB_yes h1
  obtain ⟨f1, s1, v1⟩ := crB_yes h2
  have k1 := cp_bd f0 s0 v0 (x := t) (y := 1) (by omega) (by omega)
  have k2 := cp_bd f1 s1 v1 (x := t) (y := 1) (by omega) (by omega)
  have HW := Lib.hid (fun W => whole8 t W)
  have HP := Lib.hid (fun W => placeAt_impl f s v t 1 k1 (by omega) (by omega) W)
  have HQ := Lib.hid (fun W => placeAt_impl f' s' v' t 1 k2 (by omega) (by omega) W)
  have p1 := pm_bd (a := v) (b := max 0 (t - s * 1)) (M := 1000) (N := 1000) (by omega) (by omega) (by omega)
  have p2 := pm_bd (a := v') (b := max 0 (t - s' * 1)) (M := 1000) (N := 1000) (by omega) (by omega) (by omega)
  have n1 : 0 ≤ cpN f s v t 1 ∧ cpN f s v t 1 ≤ 1000000000 := by have := k1.b; have := k1.c; unfold cpN; omega
  have n2 : 0 ≤ cpN f' s' v' t 1 ∧ cpN f' s' v' t 1 ≤ 1000000000 := by have := k2.b; have := k2.c; unfold cpN; omega
  clear k1 k2 p1 p2 h1 h2
  generalize cpN f s v t 1 = N at *
  generalize cpN f' s' v' t 1 = M at *
  rw [(low_one N n1.1 n1.2).1, (low_one N n1.1 n1.2).2.1, (low_one N n1.1 n1.2).2.2] at HP
  rw [(low_one M n2.1 n2.2).1, (low_one M n2.1 n2.2).2.1, (low_one M n2.1 n2.2).2.2] at HQ
  go_enter Try.func55, Try.ntmps55
  go_upto_region 1 with fail
  change Code.wp _ _ _ _ ((w.alloc (.cells #[.int .i64 f, .int .i64 s, .int .i64 v] 25)).alloc (.cells #[.int .i64 f', .int .i64 s', .int .i64 v'] 25))
  have c1 : (((w.alloc (.cells #[.int .i64 f, .int .i64 s, .int .i64 v] 25)).alloc (.cells #[.int .i64 f', .int .i64 s', .int .i64 v'] 25))).cell? ⟨w.heap.size, 0, none⟩ = some (.int .i64 f) := by first | (simp; done) | (simp [go_sem]; done)
  have c2 : (((w.alloc (.cells #[.int .i64 f, .int .i64 s, .int .i64 v] 25)).alloc (.cells #[.int .i64 f', .int .i64 s', .int .i64 v'] 25))).cell? ⟨w.heap.size, 1, none⟩ = some (.int .i64 s) := by first | (simp; done) | (simp [go_sem]; done)
  have c3 : (((w.alloc (.cells #[.int .i64 f, .int .i64 s, .int .i64 v] 25)).alloc (.cells #[.int .i64 f', .int .i64 s', .int .i64 v'] 25))).cell? ⟨w.heap.size, 2, none⟩ = some (.int .i64 v) := by first | (simp; done) | (simp [go_sem]; done)
  have c4 : (((w.alloc (.cells #[.int .i64 f, .int .i64 s, .int .i64 v] 25)).alloc (.cells #[.int .i64 f', .int .i64 s', .int .i64 v'] 25))).cell? ⟨w.heap.size + 1, 0, none⟩ = some (.int .i64 f') := by first | (simp; done) | (simp [go_sem]; done)
  have c5 : (((w.alloc (.cells #[.int .i64 f, .int .i64 s, .int .i64 v] 25)).alloc (.cells #[.int .i64 f', .int .i64 s', .int .i64 v'] 25))).cell? ⟨w.heap.size + 1, 1, none⟩ = some (.int .i64 s') := by first | (simp; done) | (simp [go_sem]; done)
  have c6 : (((w.alloc (.cells #[.int .i64 f, .int .i64 s, .int .i64 v] 25)).alloc (.cells #[.int .i64 f', .int .i64 s', .int .i64 v'] 25))).cell? ⟨w.heap.size + 1, 2, none⟩ = some (.int .i64 v') := by first | (simp; done) | (simp [go_sem]; done)
  have a1 : w.heap.size + 1 < (((w.alloc (.cells #[.int .i64 f, .int .i64 s, .int .i64 v] 25)).alloc (.cells #[.int .i64 f', .int .i64 s', .int .i64 v'] 25))).heap.size := by simp
  have hbw : Below w.heap.size w (((w.alloc (.cells #[.int .i64 f, .int .i64 s, .int .i64 v] 25)).alloc (.cells #[.int .i64 f', .int .i64 s', .int .i64 v'] 25))) := by (repeat (first | with_reducible exact Below.refl _ _ | with_reducible assumption | with_reducible refine balloc ?_ _ | with_reducible refine bdrew ?_ | with_reducible refine below_drewN ?_ _ | with_reducible refine bset ?_ ?_ _ | with_reducible exact Nat.le_refl _ | with_reducible refine bsize ?_ | (dsimp only; refine Nat.le_trans ?_ (Nat.le_add_right _ _)) | with_reducible refine Nat.le_trans ?_ (Nat.le_add_right _ _) | (with_reducible refine bstep ?_ (by assumption))))
  generalize (((w.alloc (.cells #[.int .i64 f, .int .i64 s, .int .i64 v] 25)).alloc (.cells #[.int .i64 f', .int .i64 s', .int .i64 v'] 25))) = V at *
  have a0 : w.heap.size < V.heap.size := by omega
  go_cut [7] (fun s7 wx => ∃ g : Nat, s7 = .pointer (some ⟨g, 0, none⟩) ∧ wx.cell? ⟨g, 0, none⟩ = some (.int .i64 N) ∧ g < wx.heap.size ∧ Below V.heap.size V wx)
  case first =>
    have hS1 := Lib.hid (fun (W : World) (h : Below V.heap.size V W) => (⟨h, keepa (W0 := V) h a0 c1, keepa (W0 := V) h a0 c2, keepa (W0 := V) h a0 c3, keepa (W0 := V) h a1 c4, keepa (W0 := V) h a1 c5, keepa (W0 := V) h a1 c6⟩ : Below V.heap.size V W ∧ W.cell? ⟨w.heap.size, 0, none⟩ = some (.int .i64 f) ∧ W.cell? ⟨w.heap.size, 1, none⟩ = some (.int .i64 s) ∧ W.cell? ⟨w.heap.size, 2, none⟩ = some (.int .i64 v) ∧ W.cell? ⟨w.heap.size + 1, 0, none⟩ = some (.int .i64 f') ∧ W.cell? ⟨w.heap.size + 1, 1, none⟩ = some (.int .i64 s') ∧ W.cell? ⟨w.heap.size + 1, 2, none⟩ = some (.int .i64 v')))
    go_region_held3 (fun W => Below V.heap.size V W ∧ W.cell? ⟨w.heap.size, 0, none⟩ = some (.int .i64 f) ∧ W.cell? ⟨w.heap.size, 1, none⟩ = some (.int .i64 s) ∧ W.cell? ⟨w.heap.size, 2, none⟩ = some (.int .i64 v) ∧ W.cell? ⟨w.heap.size + 1, 0, none⟩ = some (.int .i64 f') ∧ W.cell? ⟨w.heap.size + 1, 1, none⟩ = some (.int .i64 s') ∧ W.cell? ⟨w.heap.size + 1, 2, none⟩ = some (.int .i64 v')) ((refine hS1.out _ ?_; first | with_reducible assumption | ((repeat (first | with_reducible exact Below.refl _ _ | with_reducible assumption | with_reducible refine balloc ?_ _ | with_reducible refine bdrew ?_ | with_reducible refine below_drewN ?_ _ | with_reducible refine bset ?_ ?_ _ | with_reducible exact Nat.le_refl _ | with_reducible refine bsize ?_ | (dsimp only; refine Nat.le_trans ?_ (Nat.le_add_right _ _)) | with_reducible refine Nat.le_trans ?_ (Nat.le_add_right _ _) | (with_reducible refine bstep ?_ (by assumption)))); done))) (first | (go_at_call 56; refine (HW.out _).mono ?_; rintro e w3 ⟨rfl, hb3⟩; (try have fr := Res8.later (by first | with_reducible assumption | with_reducible exact Res8.drew (by with_reducible assumption) | exact Res8.newd _ _ _ _ | exact Res8.new _ _ _ _ | exact Res8.drew (Res8.newd _ _ _ _) | exact Res8.drew (Res8.new _ _ _ _)) hb3); (try (have fr2 := fr; obtain ⟨rx, ry, r1, r2, r3, r4, rz⟩ := fr2)); (have f0 := bstep (by first | with_reducible assumption | ((repeat (first | with_reducible exact Below.refl _ _ | with_reducible assumption | with_reducible refine balloc ?_ _ | with_reducible refine bdrew ?_ | with_reducible refine below_drewN ?_ _ | with_reducible refine bset ?_ ?_ _ | with_reducible exact Nat.le_refl _ | with_reducible refine bsize ?_ | (dsimp only; refine Nat.le_trans ?_ (Nat.le_add_right _ _)) | with_reducible refine Nat.le_trans ?_ (Nat.le_add_right _ _) | (with_reducible refine bstep ?_ (by assumption)))); done) : Below V.heap.size V _) hb3); (have f1 := hS1.out _ f0); go_split_ands) | (go_at_call 49; refine (HP.out _).mono ?_; rintro e w3 ⟨rfl, hb3⟩; (try have fr := Res8.later (by first | with_reducible assumption | with_reducible exact Res8.drew (by with_reducible assumption) | exact Res8.newd _ _ _ _ | exact Res8.new _ _ _ _ | exact Res8.drew (Res8.newd _ _ _ _) | exact Res8.drew (Res8.new _ _ _ _)) hb3); (try (have fr2 := fr; obtain ⟨rx, ry, r1, r2, r3, r4, rz⟩ := fr2)); (have f0 := bstep (by first | with_reducible assumption | ((repeat (first | with_reducible exact Below.refl _ _ | with_reducible assumption | with_reducible refine balloc ?_ _ | with_reducible refine bdrew ?_ | with_reducible refine below_drewN ?_ _ | with_reducible refine bset ?_ ?_ _ | with_reducible exact Nat.le_refl _ | with_reducible refine bsize ?_ | (dsimp only; refine Nat.le_trans ?_ (Nat.le_add_right _ _)) | with_reducible refine Nat.le_trans ?_ (Nat.le_add_right _ _) | (with_reducible refine bstep ?_ (by assumption)))); done) : Below V.heap.size V _) hb3); (have f1 := hS1.out _ f0); go_split_ands))
    all_goals (go_wp2_with fail; go_meet)
    all_goals refine ⟨_, rfl, ?_, ?_, ?_⟩
    all_goals first | ((repeat (first | with_reducible exact Below.refl _ _ | with_reducible assumption | with_reducible refine balloc ?_ _ | with_reducible refine bdrew ?_ | with_reducible refine below_drewN ?_ _ | with_reducible refine bset ?_ ?_ _ | with_reducible exact Nat.le_refl _ | with_reducible refine bsize ?_ | (dsimp only; refine Nat.le_trans ?_ (Nat.le_add_right _ _)) | with_reducible refine Nat.le_trans ?_ (Nat.le_add_right _ _) | (with_reducible refine bstep ?_ (by assumption)))); done) | (simp [go_sem, r1, r2, r3, r4, rz]; done) | (simp [go_sem]; done) | (simp; omega)
  case rest =>
    obtain ⟨g, rfl, hg0, hgz, hgb⟩ := hcut
    replace c1 := keepa hgb a0 c1
    replace c2 := keepa hgb a0 c2
    replace c3 := keepa hgb a0 c3
    replace c4 := keepa hgb a1 c4
    replace c5 := keepa hgb a1 c5
    replace c6 := keepa hgb a1 c6
    replace a0 := Nat.lt_of_lt_of_le a0 hgb.size
    replace a1 := Nat.lt_of_lt_of_le a1 hgb.size
    have hbw2 := bstep hbw hgb
    clear hgb hbw
    go_upto_region 2 with fail
    go_cut [9] (fun s9 wx => ∃ g : Nat, s9 = .pointer (some ⟨g, 0, none⟩) ∧ wx.cell? ⟨g, 0, none⟩ = some (.int .i64 M) ∧ g < wx.heap.size ∧ Below wc.heap.size wc wx)
    case first =>
      have hS2 := Lib.hid (fun (W : World) (h : Below wc.heap.size wc W) => (⟨h, keepa (W0 := wc) h a0 c1, keepa (W0 := wc) h a0 c2, keepa (W0 := wc) h a0 c3, keepa (W0 := wc) h a1 c4, keepa (W0 := wc) h a1 c5, keepa (W0 := wc) h a1 c6⟩ : Below wc.heap.size wc W ∧ W.cell? ⟨w.heap.size, 0, none⟩ = some (.int .i64 f) ∧ W.cell? ⟨w.heap.size, 1, none⟩ = some (.int .i64 s) ∧ W.cell? ⟨w.heap.size, 2, none⟩ = some (.int .i64 v) ∧ W.cell? ⟨w.heap.size + 1, 0, none⟩ = some (.int .i64 f') ∧ W.cell? ⟨w.heap.size + 1, 1, none⟩ = some (.int .i64 s') ∧ W.cell? ⟨w.heap.size + 1, 2, none⟩ = some (.int .i64 v')))
      go_region_held3 (fun W => Below wc.heap.size wc W ∧ W.cell? ⟨w.heap.size, 0, none⟩ = some (.int .i64 f) ∧ W.cell? ⟨w.heap.size, 1, none⟩ = some (.int .i64 s) ∧ W.cell? ⟨w.heap.size, 2, none⟩ = some (.int .i64 v) ∧ W.cell? ⟨w.heap.size + 1, 0, none⟩ = some (.int .i64 f') ∧ W.cell? ⟨w.heap.size + 1, 1, none⟩ = some (.int .i64 s') ∧ W.cell? ⟨w.heap.size + 1, 2, none⟩ = some (.int .i64 v')) ((refine hS2.out _ ?_; first | with_reducible assumption | ((repeat (first | with_reducible exact Below.refl _ _ | with_reducible assumption | with_reducible refine balloc ?_ _ | with_reducible refine bdrew ?_ | with_reducible refine below_drewN ?_ _ | with_reducible refine bset ?_ ?_ _ | with_reducible exact Nat.le_refl _ | with_reducible refine bsize ?_ | (dsimp only; refine Nat.le_trans ?_ (Nat.le_add_right _ _)) | with_reducible refine Nat.le_trans ?_ (Nat.le_add_right _ _) | (with_reducible refine bstep ?_ (by assumption)))); done))) (first | (go_at_call 56; refine (HW.out _).mono ?_; rintro e w3 ⟨rfl, hb3⟩; (try have fr := Res8.later (by first | with_reducible assumption | with_reducible exact Res8.drew (by with_reducible assumption) | exact Res8.newd _ _ _ _ | exact Res8.new _ _ _ _ | exact Res8.drew (Res8.newd _ _ _ _) | exact Res8.drew (Res8.new _ _ _ _)) hb3); (try (have fr2 := fr; obtain ⟨rx, ry, r1, r2, r3, r4, rz⟩ := fr2)); (have f0 := bstep (by first | with_reducible assumption | ((repeat (first | with_reducible exact Below.refl _ _ | with_reducible assumption | with_reducible refine balloc ?_ _ | with_reducible refine bdrew ?_ | with_reducible refine below_drewN ?_ _ | with_reducible refine bset ?_ ?_ _ | with_reducible exact Nat.le_refl _ | with_reducible refine bsize ?_ | (dsimp only; refine Nat.le_trans ?_ (Nat.le_add_right _ _)) | with_reducible refine Nat.le_trans ?_ (Nat.le_add_right _ _) | (with_reducible refine bstep ?_ (by assumption)))); done) : Below wc.heap.size wc _) hb3); (have f1 := hS2.out _ f0); go_split_ands) | (go_at_call 49; refine (HQ.out _).mono ?_; rintro e w3 ⟨rfl, hb3⟩; (try have fr := Res8.later (by first | with_reducible assumption | with_reducible exact Res8.drew (by with_reducible assumption) | exact Res8.newd _ _ _ _ | exact Res8.new _ _ _ _ | exact Res8.drew (Res8.newd _ _ _ _) | exact Res8.drew (Res8.new _ _ _ _)) hb3); (try (have fr2 := fr; obtain ⟨rx, ry, r1, r2, r3, r4, rz⟩ := fr2)); (have f0 := bstep (by first | with_reducible assumption | ((repeat (first | with_reducible exact Below.refl _ _ | with_reducible assumption | with_reducible refine balloc ?_ _ | with_reducible refine bdrew ?_ | with_reducible refine below_drewN ?_ _ | with_reducible refine bset ?_ ?_ _ | with_reducible exact Nat.le_refl _ | with_reducible refine bsize ?_ | (dsimp only; refine Nat.le_trans ?_ (Nat.le_add_right _ _)) | with_reducible refine Nat.le_trans ?_ (Nat.le_add_right _ _) | (with_reducible refine bstep ?_ (by assumption)))); done) : Below wc.heap.size wc _) hb3); (have f1 := hS2.out _ f0); go_split_ands))
      all_goals (go_wp2_with fail; go_meet)
      all_goals refine ⟨_, rfl, ?_, ?_, ?_⟩
      all_goals first | ((repeat (first | with_reducible exact Below.refl _ _ | with_reducible assumption | with_reducible refine balloc ?_ _ | with_reducible refine bdrew ?_ | with_reducible refine below_drewN ?_ _ | with_reducible refine bset ?_ ?_ _ | with_reducible exact Nat.le_refl _ | with_reducible refine bsize ?_ | (dsimp only; refine Nat.le_trans ?_ (Nat.le_add_right _ _)) | with_reducible refine Nat.le_trans ?_ (Nat.le_add_right _ _) | (with_reducible refine bstep ?_ (by assumption)))); done) | (simp [go_sem, r1, r2, r3, r4, rz]; done) | (simp [go_sem]; done) | (simp; omega)
    case rest =>
      obtain ⟨h, rfl, hh0, hhz, hhb⟩ := hcut
      replace hg0 := keepa hhb hgz hg0
      have hbw := bstep hbw2 hhb
      clear hhb
      go_wp2
      go_ret
      refine ⟨rfl, ?_⟩
      (repeat (first | with_reducible exact Below.refl _ _ | with_reducible assumption | with_reducible refine balloc ?_ _ | with_reducible refine bdrew ?_ | with_reducible refine below_drewN ?_ _ | with_reducible refine bset ?_ ?_ _ | with_reducible exact Nat.le_refl _ | with_reducible refine bsize ?_ | (dsimp only; refine Nat.le_trans ?_ (Nat.le_add_right _ _)) | with_reducible refine Nat.le_trans ?_ (Nat.le_add_right _ _) | (with_reducible refine bstep ?_ (by assumption))))
end Go.Proofs.Ythfaljninmcopaa
