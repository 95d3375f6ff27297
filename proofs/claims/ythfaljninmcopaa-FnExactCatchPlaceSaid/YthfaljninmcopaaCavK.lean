/- Caravans that catch up: CatchTime and CatchPlace of the program. -/
import Derived.Test.YthfaljninmcopaaCavJ
namespace Go.Proofs.Ythfaljninmcopaa
open Go.ChangeShapes Go.WideShapes Go.ChangeAt Go.RowKit Go.Joins
set_option maxRecDepth 100000
set_option linter.unusedVariables false
set_option linter.unusedSimpArgs false

set_option maxHeartbeats 12800000 in
theorem catchT_impl (f s v f' s' v' : Int) (b2 : -9223372036854775808 ≤ v ∧ v ≤ 9223372036854775807) (b5 : -9223372036854775808 ≤ v' ∧ v' ≤ 9223372036854775807) (w : World) :
    Calls Try.prog 25 #[.agg #[.int .i64 f, .int .i64 s, .int .i64 v], .agg #[.int .i64 f', .int .i64 s', .int .i64 v']] w fun e w' => e = .returned (.tuple #[.agg #[.int .i64 (twoN (crB f s v && crB f' s' v') (ctN f s v f' s' v') (ctD f s v f' s' v')), .int .i64 (twoD (crB f s v && crB f' s' v') (ctN f s v f' s' v') (ctD f s v f' s' v'))], .bool (twoB (crB f s v && crB f' s' v') (ctN f s v f' s' v') (ctD f s v f' s' v'))]) ∧ Below w.heap.size w w' := by
  have HC := Lib.hid (fun W => isCav_impl f s v b2 W)
  have HC2 := Lib.hid (fun W => isCav_impl f' s' v' b5 W)
  cases h1 : crB f s v
  · rw [h1] at HC
    rw [Bool.false_and, (two_no _ _).1, (two_no _ _).2.1, (two_no _ _).2.2]
    go_enter Try.func25, Try.ntmps25
    (go_wp2_with fail; refine (HC.out _).mono ?_; rintro e w1 ⟨rfl, hb1⟩; have ha1 := hb1; obtain ⟨kc1, kf1, kz1, ky1, kx1, kv1, ku1⟩ := bcell hb1)
    go_wp2
    refine bodyPost_ret (v := .tuple #[.agg #[.int .i64 0, .int .i64 0], .bool false]) (by simp only [results, Try.results25]; go_simp) rfl ⟨rfl, ?_⟩
    (repeat (first | with_reducible exact Below.refl _ _ | with_reducible assumption | with_reducible refine balloc ?_ _ | with_reducible refine bdrew ?_ | with_reducible refine below_drewN ?_ _ | with_reducible refine bset ?_ ?_ _ | with_reducible exact Nat.le_refl _ | with_reducible refine bsize ?_ | (dsimp only; refine Nat.le_trans ?_ (Nat.le_add_right _ _)) | with_reducible refine Nat.le_trans ?_ (Nat.le_add_right _ _) | (with_reducible refine bstep ?_ (by assumption))))
  · rw [h1] at HC
    cases h2 : crB f' s' v'
    · rw [h2] at HC2
      rw [Bool.and_false, (two_no _ _).1, (two_no _ _).2.1, (two_no _ _).2.2]
      go_enter Try.func25, Try.ntmps25
      (go_wp2_with fail; refine (HC.out _).mono ?_; rintro e w1 ⟨rfl, hb1⟩; (have ha1 : Below w.heap.size w w1 := by (repeat (first | with_reducible exact Below.refl _ _ | with_reducible assumption | with_reducible refine balloc ?_ _ | with_reducible refine bdrew ?_ | with_reducible refine below_drewN ?_ _ | with_reducible refine bset ?_ ?_ _ | with_reducible exact Nat.le_refl _ | with_reducible refine bsize ?_ | (dsimp only; refine Nat.le_trans ?_ (Nat.le_add_right _ _)) | with_reducible refine Nat.le_trans ?_ (Nat.le_add_right _ _) | (with_reducible refine bstep ?_ (by assumption))))); obtain ⟨kc1, kf1, kz1, ky1, kx1, kv1, ku1⟩ := bcell hb1)
      have q1_h_0 : w1.cell? ⟨w.heap.size, 0, none⟩ = some (.int .i64 f) := by rw [kc1 _ _ (by first | assumption | (simp; done) | (simp; omega) | omega)]; simp [go_sem]
      have r1_h_0 : w1.frozen? ⟨w.heap.size, 0, none⟩ = false := by rw [kf1 _ _ (by first | assumption | (simp; done) | (simp; omega) | omega)]; simp [go_sem]
      have q1_h_1 : w1.cell? ⟨w.heap.size, 1, none⟩ = some (.int .i64 s) := by rw [kc1 _ _ (by first | assumption | (simp; done) | (simp; omega) | omega)]; simp [go_sem]
      have r1_h_1 : w1.frozen? ⟨w.heap.size, 1, none⟩ = false := by rw [kf1 _ _ (by first | assumption | (simp; done) | (simp; omega) | omega)]; simp [go_sem]
      have q1_h_2 : w1.cell? ⟨w.heap.size, 2, none⟩ = some (.int .i64 v) := by rw [kc1 _ _ (by first | assumption | (simp; done) | (simp; omega) | omega)]; simp [go_sem]
      have r1_h_2 : w1.frozen? ⟨w.heap.size, 2, none⟩ = false := by rw [kf1 _ _ (by first | assumption | (simp; done) | (simp; omega) | omega)]; simp [go_sem]
      have z1_h : w.heap.size < w1.heap.size := kz1 _ (by first | assumption | (simp; done) | (simp; omega) | omega)
      have q1_h_1_0 : w1.cell? ⟨w.heap.size + 1, 0, none⟩ = some (.int .i64 f') := by rw [kc1 _ _ (by first | assumption | (simp; done) | (simp; omega) | omega)]; simp [go_sem]
      have r1_h_1_0 : w1.frozen? ⟨w.heap.size + 1, 0, none⟩ = false := by rw [kf1 _ _ (by first | assumption | (simp; done) | (simp; omega) | omega)]; simp [go_sem]
      have q1_h_1_1 : w1.cell? ⟨w.heap.size + 1, 1, none⟩ = some (.int .i64 s') := by rw [kc1 _ _ (by first | assumption | (simp; done) | (simp; omega) | omega)]; simp [go_sem]
      have r1_h_1_1 : w1.frozen? ⟨w.heap.size + 1, 1, none⟩ = false := by rw [kf1 _ _ (by first | assumption | (simp; done) | (simp; omega) | omega)]; simp [go_sem]
      have q1_h_1_2 : w1.cell? ⟨w.heap.size + 1, 2, none⟩ = some (.int .i64 v') := by rw [kc1 _ _ (by first | assumption | (simp; done) | (simp; omega) | omega)]; simp [go_sem]
      have r1_h_1_2 : w1.frozen? ⟨w.heap.size + 1, 2, none⟩ = false := by rw [kf1 _ _ (by first | assumption | (simp; done) | (simp; omega) | omega)]; simp [go_sem]
      have z1_h_1 : w.heap.size + 1 < w1.heap.size := kz1 _ (by first | assumption | (simp; done) | (simp; omega) | omega)
      have q1_h_1_1_0 : w1.cell? ⟨w.heap.size + 1 + 1, 0, none⟩ = some (.int .i64 0) := by rw [kc1 _ _ (by first | assumption | (simp; done) | (simp; omega) | omega)]; simp [go_sem]
      have r1_h_1_1_0 : w1.frozen? ⟨w.heap.size + 1 + 1, 0, none⟩ = false := by rw [kf1 _ _ (by first | assumption | (simp; done) | (simp; omega) | omega)]; simp [go_sem]
      have q1_h_1_1_1 : w1.cell? ⟨w.heap.size + 1 + 1, 1, none⟩ = some (.int .i64 0) := by rw [kc1 _ _ (by first | assumption | (simp; done) | (simp; omega) | omega)]; simp [go_sem]
      have r1_h_1_1_1 : w1.frozen? ⟨w.heap.size + 1 + 1, 1, none⟩ = false := by rw [kf1 _ _ (by first | assumption | (simp; done) | (simp; omega) | omega)]; simp [go_sem]
      have z1_h_1_1 : w.heap.size + 1 + 1 < w1.heap.size := kz1 _ (by first | assumption | (simp; done) | (simp; omega) | omega)
      clear kc1 kf1 kz1 ky1 kx1 kv1 ku1 hb1
      (go_wp2_with fail; refine (HC2.out _).mono ?_; rintro e w2 ⟨rfl, hb2⟩; (have ha2 : Below w.heap.size w w2 := by (repeat (first | with_reducible exact Below.refl _ _ | with_reducible assumption | with_reducible refine balloc ?_ _ | with_reducible refine bdrew ?_ | with_reducible refine below_drewN ?_ _ | with_reducible refine bset ?_ ?_ _ | with_reducible exact Nat.le_refl _ | with_reducible refine bsize ?_ | (dsimp only; refine Nat.le_trans ?_ (Nat.le_add_right _ _)) | with_reducible refine Nat.le_trans ?_ (Nat.le_add_right _ _) | (with_reducible refine bstep ?_ (by assumption))))); obtain ⟨kc2, kf2, kz2, ky2, kx2, kv2, ku2⟩ := bcell hb2)
      have q2_h_1_1_0 : w2.cell? ⟨w.heap.size + 1 + 1, 0, none⟩ = some (.int .i64 0) := by rw [kc2 _ _ (by first | assumption | (simp; done) | (simp; omega) | omega)]; simp [go_sem, q1_h_0, r1_h_0, q1_h_1, r1_h_1, q1_h_2, r1_h_2, z1_h, q1_h_1_0, r1_h_1_0, q1_h_1_1, r1_h_1_1, q1_h_1_2, r1_h_1_2, z1_h_1, q1_h_1_1_0, r1_h_1_1_0, q1_h_1_1_1, r1_h_1_1_1, z1_h_1_1]
      have r2_h_1_1_0 : w2.frozen? ⟨w.heap.size + 1 + 1, 0, none⟩ = false := by rw [kf2 _ _ (by first | assumption | (simp; done) | (simp; omega) | omega)]; simp [go_sem, q1_h_0, r1_h_0, q1_h_1, r1_h_1, q1_h_2, r1_h_2, z1_h, q1_h_1_0, r1_h_1_0, q1_h_1_1, r1_h_1_1, q1_h_1_2, r1_h_1_2, z1_h_1, q1_h_1_1_0, r1_h_1_1_0, q1_h_1_1_1, r1_h_1_1_1, z1_h_1_1]
      have q2_h_1_1_1 : w2.cell? ⟨w.heap.size + 1 + 1, 1, none⟩ = some (.int .i64 0) := by rw [kc2 _ _ (by first | assumption | (simp; done) | (simp; omega) | omega)]; simp [go_sem, q1_h_0, r1_h_0, q1_h_1, r1_h_1, q1_h_2, r1_h_2, z1_h, q1_h_1_0, r1_h_1_0, q1_h_1_1, r1_h_1_1, q1_h_1_2, r1_h_1_2, z1_h_1, q1_h_1_1_0, r1_h_1_1_0, q1_h_1_1_1, r1_h_1_1_1, z1_h_1_1]
      have r2_h_1_1_1 : w2.frozen? ⟨w.heap.size + 1 + 1, 1, none⟩ = false := by rw [kf2 _ _ (by first | assumption | (simp; done) | (simp; omega) | omega)]; simp [go_sem, q1_h_0, r1_h_0, q1_h_1, r1_h_1, q1_h_2, r1_h_2, z1_h, q1_h_1_0, r1_h_1_0, q1_h_1_1, r1_h_1_1, q1_h_1_2, r1_h_1_2, z1_h_1, q1_h_1_1_0, r1_h_1_1_0, q1_h_1_1_1, r1_h_1_1_1, z1_h_1_1]
      have z2_h_1_1 : w.heap.size + 1 + 1 < w2.heap.size := kz2 _ (by first | assumption | (simp; done) | (simp; omega) | omega)
      clear kc2 kf2 kz2 ky2 kx2 kv2 ku2 hb2 q1_h_0 r1_h_0 q1_h_1 r1_h_1 q1_h_2 r1_h_2 z1_h q1_h_1_0 r1_h_1_0 q1_h_1_1 r1_h_1_1 q1_h_1_2 r1_h_1_2 z1_h_1 q1_h_1_1_0 r1_h_1_1_0 q1_h_1_1_1 r1_h_1_1_1 z1_h_1_1
      go_wp2
      refine bodyPost_ret (v := .tuple #[.agg #[.int .i64 0, .int .i64 0], .bool false]) (by simp only [results, Try.results25]; go_simp) rfl ⟨rfl, ?_⟩
      (repeat (first | with_reducible exact Below.refl _ _ | with_reducible assumption | with_reducible refine balloc ?_ _ | with_reducible refine bdrew ?_ | with_reducible refine below_drewN ?_ _ | with_reducible refine bset ?_ ?_ _ | with_reducible exact Nat.le_refl _ | with_reducible refine bsize ?_ | (dsimp only; refine Nat.le_trans ?_ (Nat.le_add_right _ _)) | with_reducible refine Nat.le_trans ?_ (Nat.le_add_right _ _) | (with_reducible refine bstep ?_ (by assumption))))
    · rw [h2] at HC2
      have hK : (true && true) = true := rfl
      rw [hK, (two_yes _ _).1, (two_yes _ _).2.1, (two_yes _ _).2.2]
      obtain ⟨f0, s0, v0⟩ := crB_yes h1
      obtain ⟨f1, s1, v1⟩ := crB_yes h2
      obtain ⟨bL, bN, bD⟩ := ct_bd h1 h2
      have HLd := Lib.hid (fun W => lead_impl f s v f' s' v' (max s s') h1 h2 (by omega) W)
      rw [ctL_prog] at HLd
      obtain ⟨T, hT⟩ : ∃ T, T = max s s' := ⟨_, rfl⟩
      have c0 := Lib.hid (@ct_0 f s v f' s' v')
      have cp := Lib.hid (@ct_p f s v f' s' v')
      have cpn := Lib.hid (@ct_pn f s v f' s' v')
      have cm := Lib.hid (@ct_m f s v f' s' v')
      have cmn := Lib.hid (@ct_mn f s v f' s' v')
      rw [← hT] at HLd c0 cp cm
      have hTb : 0 ≤ T ∧ T ≤ 1000 := by omega
      clear h1 h2 hK bN bD
      generalize ctL f s v f' s' v' = L at *
      generalize ctN f s v f' s' v' = N at *
      generalize ctD f s v f' s' v' = D at *
      go_enter Try.func25, Try.ntmps25
      (go_wp2_with fail; refine (HC.out _).mono ?_; rintro e w1 ⟨rfl, hb1⟩; (have ha1 : Below w.heap.size w w1 := by (repeat (first | with_reducible exact Below.refl _ _ | with_reducible assumption | with_reducible refine balloc ?_ _ | with_reducible refine bdrew ?_ | with_reducible refine below_drewN ?_ _ | with_reducible refine bset ?_ ?_ _ | with_reducible exact Nat.le_refl _ | with_reducible refine bsize ?_ | (dsimp only; refine Nat.le_trans ?_ (Nat.le_add_right _ _)) | with_reducible refine Nat.le_trans ?_ (Nat.le_add_right _ _) | (with_reducible refine bstep ?_ (by assumption))))); obtain ⟨kc1, kf1, kz1, ky1, kx1, kv1, ku1⟩ := bcell hb1)
      have q1_h_0 : w1.cell? ⟨w.heap.size, 0, none⟩ = some (.int .i64 f) := by rw [kc1 _ _ (by first | assumption | (simp; done) | (simp; omega) | omega)]; simp [go_sem]
      have r1_h_0 : w1.frozen? ⟨w.heap.size, 0, none⟩ = false := by rw [kf1 _ _ (by first | assumption | (simp; done) | (simp; omega) | omega)]; simp [go_sem]
      have q1_h_1 : w1.cell? ⟨w.heap.size, 1, none⟩ = some (.int .i64 s) := by rw [kc1 _ _ (by first | assumption | (simp; done) | (simp; omega) | omega)]; simp [go_sem]
      have r1_h_1 : w1.frozen? ⟨w.heap.size, 1, none⟩ = false := by rw [kf1 _ _ (by first | assumption | (simp; done) | (simp; omega) | omega)]; simp [go_sem]
      have q1_h_2 : w1.cell? ⟨w.heap.size, 2, none⟩ = some (.int .i64 v) := by rw [kc1 _ _ (by first | assumption | (simp; done) | (simp; omega) | omega)]; simp [go_sem]
      have r1_h_2 : w1.frozen? ⟨w.heap.size, 2, none⟩ = false := by rw [kf1 _ _ (by first | assumption | (simp; done) | (simp; omega) | omega)]; simp [go_sem]
      have z1_h : w.heap.size < w1.heap.size := kz1 _ (by first | assumption | (simp; done) | (simp; omega) | omega)
      have q1_h_1_0 : w1.cell? ⟨w.heap.size + 1, 0, none⟩ = some (.int .i64 f') := by rw [kc1 _ _ (by first | assumption | (simp; done) | (simp; omega) | omega)]; simp [go_sem]
      have r1_h_1_0 : w1.frozen? ⟨w.heap.size + 1, 0, none⟩ = false := by rw [kf1 _ _ (by first | assumption | (simp; done) | (simp; omega) | omega)]; simp [go_sem]
      have q1_h_1_1 : w1.cell? ⟨w.heap.size + 1, 1, none⟩ = some (.int .i64 s') := by rw [kc1 _ _ (by first | assumption | (simp; done) | (simp; omega) | omega)]; simp [go_sem]
      have r1_h_1_1 : w1.frozen? ⟨w.heap.size + 1, 1, none⟩ = false := by rw [kf1 _ _ (by first | assumption | (simp; done) | (simp; omega) | omega)]; simp [go_sem]
      have q1_h_1_2 : w1.cell? ⟨w.heap.size + 1, 2, none⟩ = some (.int .i64 v') := by rw [kc1 _ _ (by first | assumption | (simp; done) | (simp; omega) | omega)]; simp [go_sem]
      have r1_h_1_2 : w1.frozen? ⟨w.heap.size + 1, 2, none⟩ = false := by rw [kf1 _ _ (by first | assumption | (simp; done) | (simp; omega) | omega)]; simp [go_sem]
      have z1_h_1 : w.heap.size + 1 < w1.heap.size := kz1 _ (by first | assumption | (simp; done) | (simp; omega) | omega)
      have q1_h_1_1_0 : w1.cell? ⟨w.heap.size + 1 + 1, 0, none⟩ = some (.int .i64 0) := by rw [kc1 _ _ (by first | assumption | (simp; done) | (simp; omega) | omega)]; simp [go_sem]
      have r1_h_1_1_0 : w1.frozen? ⟨w.heap.size + 1 + 1, 0, none⟩ = false := by rw [kf1 _ _ (by first | assumption | (simp; done) | (simp; omega) | omega)]; simp [go_sem]
      have q1_h_1_1_1 : w1.cell? ⟨w.heap.size + 1 + 1, 1, none⟩ = some (.int .i64 0) := by rw [kc1 _ _ (by first | assumption | (simp; done) | (simp; omega) | omega)]; simp [go_sem]
      have r1_h_1_1_1 : w1.frozen? ⟨w.heap.size + 1 + 1, 1, none⟩ = false := by rw [kf1 _ _ (by first | assumption | (simp; done) | (simp; omega) | omega)]; simp [go_sem]
      have z1_h_1_1 : w.heap.size + 1 + 1 < w1.heap.size := kz1 _ (by first | assumption | (simp; done) | (simp; omega) | omega)
      clear kc1 kf1 kz1 ky1 kx1 kv1 ku1 hb1
      (go_wp2_with fail; refine (HC2.out _).mono ?_; rintro e w2 ⟨rfl, hb2⟩; (have ha2 : Below w.heap.size w w2 := by (repeat (first | with_reducible exact Below.refl _ _ | with_reducible assumption | with_reducible refine balloc ?_ _ | with_reducible refine bdrew ?_ | with_reducible refine below_drewN ?_ _ | with_reducible refine bset ?_ ?_ _ | with_reducible exact Nat.le_refl _ | with_reducible refine bsize ?_ | (dsimp only; refine Nat.le_trans ?_ (Nat.le_add_right _ _)) | with_reducible refine Nat.le_trans ?_ (Nat.le_add_right _ _) | (with_reducible refine bstep ?_ (by assumption))))); obtain ⟨kc2, kf2, kz2, ky2, kx2, kv2, ku2⟩ := bcell hb2)
      have q2_h_0 : w2.cell? ⟨w.heap.size, 0, none⟩ = some (.int .i64 f) := by rw [kc2 _ _ (by first | assumption | (simp; done) | (simp; omega) | omega)]; simp [go_sem, q1_h_0, r1_h_0, q1_h_1, r1_h_1, q1_h_2, r1_h_2, z1_h, q1_h_1_0, r1_h_1_0, q1_h_1_1, r1_h_1_1, q1_h_1_2, r1_h_1_2, z1_h_1, q1_h_1_1_0, r1_h_1_1_0, q1_h_1_1_1, r1_h_1_1_1, z1_h_1_1]
      have r2_h_0 : w2.frozen? ⟨w.heap.size, 0, none⟩ = false := by rw [kf2 _ _ (by first | assumption | (simp; done) | (simp; omega) | omega)]; simp [go_sem, q1_h_0, r1_h_0, q1_h_1, r1_h_1, q1_h_2, r1_h_2, z1_h, q1_h_1_0, r1_h_1_0, q1_h_1_1, r1_h_1_1, q1_h_1_2, r1_h_1_2, z1_h_1, q1_h_1_1_0, r1_h_1_1_0, q1_h_1_1_1, r1_h_1_1_1, z1_h_1_1]
      have q2_h_1 : w2.cell? ⟨w.heap.size, 1, none⟩ = some (.int .i64 s) := by rw [kc2 _ _ (by first | assumption | (simp; done) | (simp; omega) | omega)]; simp [go_sem, q1_h_0, r1_h_0, q1_h_1, r1_h_1, q1_h_2, r1_h_2, z1_h, q1_h_1_0, r1_h_1_0, q1_h_1_1, r1_h_1_1, q1_h_1_2, r1_h_1_2, z1_h_1, q1_h_1_1_0, r1_h_1_1_0, q1_h_1_1_1, r1_h_1_1_1, z1_h_1_1]
      have r2_h_1 : w2.frozen? ⟨w.heap.size, 1, none⟩ = false := by rw [kf2 _ _ (by first | assumption | (simp; done) | (simp; omega) | omega)]; simp [go_sem, q1_h_0, r1_h_0, q1_h_1, r1_h_1, q1_h_2, r1_h_2, z1_h, q1_h_1_0, r1_h_1_0, q1_h_1_1, r1_h_1_1, q1_h_1_2, r1_h_1_2, z1_h_1, q1_h_1_1_0, r1_h_1_1_0, q1_h_1_1_1, r1_h_1_1_1, z1_h_1_1]
      have q2_h_2 : w2.cell? ⟨w.heap.size, 2, none⟩ = some (.int .i64 v) := by rw [kc2 _ _ (by first | assumption | (simp; done) | (simp; omega) | omega)]; simp [go_sem, q1_h_0, r1_h_0, q1_h_1, r1_h_1, q1_h_2, r1_h_2, z1_h, q1_h_1_0, r1_h_1_0, q1_h_1_1, r1_h_1_1, q1_h_1_2, r1_h_1_2, z1_h_1, q1_h_1_1_0, r1_h_1_1_0, q1_h_1_1_1, r1_h_1_1_1, z1_h_1_1]
      have r2_h_2 : w2.frozen? ⟨w.heap.size, 2, none⟩ = false := by rw [kf2 _ _ (by first | assumption | (simp; done) | (simp; omega) | omega)]; simp [go_sem, q1_h_0, r1_h_0, q1_h_1, r1_h_1, q1_h_2, r1_h_2, z1_h, q1_h_1_0, r1_h_1_0, q1_h_1_1, r1_h_1_1, q1_h_1_2, r1_h_1_2, z1_h_1, q1_h_1_1_0, r1_h_1_1_0, q1_h_1_1_1, r1_h_1_1_1, z1_h_1_1]
      have z2_h : w.heap.size < w2.heap.size := kz2 _ (by first | assumption | (simp; done) | (simp; omega) | omega)
      have q2_h_1_0 : w2.cell? ⟨w.heap.size + 1, 0, none⟩ = some (.int .i64 f') := by rw [kc2 _ _ (by first | assumption | (simp; done) | (simp; omega) | omega)]; simp [go_sem, q1_h_0, r1_h_0, q1_h_1, r1_h_1, q1_h_2, r1_h_2, z1_h, q1_h_1_0, r1_h_1_0, q1_h_1_1, r1_h_1_1, q1_h_1_2, r1_h_1_2, z1_h_1, q1_h_1_1_0, r1_h_1_1_0, q1_h_1_1_1, r1_h_1_1_1, z1_h_1_1]
      have r2_h_1_0 : w2.frozen? ⟨w.heap.size + 1, 0, none⟩ = false := by rw [kf2 _ _ (by first | assumption | (simp; done) | (simp; omega) | omega)]; simp [go_sem, q1_h_0, r1_h_0, q1_h_1, r1_h_1, q1_h_2, r1_h_2, z1_h, q1_h_1_0, r1_h_1_0, q1_h_1_1, r1_h_1_1, q1_h_1_2, r1_h_1_2, z1_h_1, q1_h_1_1_0, r1_h_1_1_0, q1_h_1_1_1, r1_h_1_1_1, z1_h_1_1]
      have q2_h_1_1 : w2.cell? ⟨w.heap.size + 1, 1, none⟩ = some (.int .i64 s') := by rw [kc2 _ _ (by first | assumption | (simp; done) | (simp; omega) | omega)]; simp [go_sem, q1_h_0, r1_h_0, q1_h_1, r1_h_1, q1_h_2, r1_h_2, z1_h, q1_h_1_0, r1_h_1_0, q1_h_1_1, r1_h_1_1, q1_h_1_2, r1_h_1_2, z1_h_1, q1_h_1_1_0, r1_h_1_1_0, q1_h_1_1_1, r1_h_1_1_1, z1_h_1_1]
      have r2_h_1_1 : w2.frozen? ⟨w.heap.size + 1, 1, none⟩ = false := by rw [kf2 _ _ (by first | assumption | (simp; done) | (simp; omega) | omega)]; simp [go_sem, q1_h_0, r1_h_0, q1_h_1, r1_h_1, q1_h_2, r1_h_2, z1_h, q1_h_1_0, r1_h_1_0, q1_h_1_1, r1_h_1_1, q1_h_1_2, r1_h_1_2, z1_h_1, q1_h_1_1_0, r1_h_1_1_0, q1_h_1_1_1, r1_h_1_1_1, z1_h_1_1]
      have q2_h_1_2 : w2.cell? ⟨w.heap.size + 1, 2, none⟩ = some (.int .i64 v') := by rw [kc2 _ _ (by first | assumption | (simp; done) | (simp; omega) | omega)]; simp [go_sem, q1_h_0, r1_h_0, q1_h_1, r1_h_1, q1_h_2, r1_h_2, z1_h, q1_h_1_0, r1_h_1_0, q1_h_1_1, r1_h_1_1, q1_h_1_2, r1_h_1_2, z1_h_1, q1_h_1_1_0, r1_h_1_1_0, q1_h_1_1_1, r1_h_1_1_1, z1_h_1_1]
      have r2_h_1_2 : w2.frozen? ⟨w.heap.size + 1, 2, none⟩ = false := by rw [kf2 _ _ (by first | assumption | (simp; done) | (simp; omega) | omega)]; simp [go_sem, q1_h_0, r1_h_0, q1_h_1, r1_h_1, q1_h_2, r1_h_2, z1_h, q1_h_1_0, r1_h_1_0, q1_h_1_1, r1_h_1_1, q1_h_1_2, r1_h_1_2, z1_h_1, q1_h_1_1_0, r1_h_1_1_0, q1_h_1_1_1, r1_h_1_1_1, z1_h_1_1]
      have z2_h_1 : w.heap.size + 1 < w2.heap.size := kz2 _ (by first | assumption | (simp; done) | (simp; omega) | omega)
      have q2_h_1_1_0 : w2.cell? ⟨w.heap.size + 1 + 1, 0, none⟩ = some (.int .i64 0) := by rw [kc2 _ _ (by first | assumption | (simp; done) | (simp; omega) | omega)]; simp [go_sem, q1_h_0, r1_h_0, q1_h_1, r1_h_1, q1_h_2, r1_h_2, z1_h, q1_h_1_0, r1_h_1_0, q1_h_1_1, r1_h_1_1, q1_h_1_2, r1_h_1_2, z1_h_1, q1_h_1_1_0, r1_h_1_1_0, q1_h_1_1_1, r1_h_1_1_1, z1_h_1_1]
      have r2_h_1_1_0 : w2.frozen? ⟨w.heap.size + 1 + 1, 0, none⟩ = false := by rw [kf2 _ _ (by first | assumption | (simp; done) | (simp; omega) | omega)]; simp [go_sem, q1_h_0, r1_h_0, q1_h_1, r1_h_1, q1_h_2, r1_h_2, z1_h, q1_h_1_0, r1_h_1_0, q1_h_1_1, r1_h_1_1, q1_h_1_2, r1_h_1_2, z1_h_1, q1_h_1_1_0, r1_h_1_1_0, q1_h_1_1_1, r1_h_1_1_1, z1_h_1_1]
      have q2_h_1_1_1 : w2.cell? ⟨w.heap.size + 1 + 1, 1, none⟩ = some (.int .i64 0) := by rw [kc2 _ _ (by first | assumption | (simp; done) | (simp; omega) | omega)]; simp [go_sem, q1_h_0, r1_h_0, q1_h_1, r1_h_1, q1_h_2, r1_h_2, z1_h, q1_h_1_0, r1_h_1_0, q1_h_1_1, r1_h_1_1, q1_h_1_2, r1_h_1_2, z1_h_1, q1_h_1_1_0, r1_h_1_1_0, q1_h_1_1_1, r1_h_1_1_1, z1_h_1_1]
      have r2_h_1_1_1 : w2.frozen? ⟨w.heap.size + 1 + 1, 1, none⟩ = false := by rw [kf2 _ _ (by first | assumption | (simp; done) | (simp; omega) | omega)]; simp [go_sem, q1_h_0, r1_h_0, q1_h_1, r1_h_1, q1_h_2, r1_h_2, z1_h, q1_h_1_0, r1_h_1_0, q1_h_1_1, r1_h_1_1, q1_h_1_2, r1_h_1_2, z1_h_1, q1_h_1_1_0, r1_h_1_1_0, q1_h_1_1_1, r1_h_1_1_1, z1_h_1_1]
      have z2_h_1_1 : w.heap.size + 1 + 1 < w2.heap.size := kz2 _ (by first | assumption | (simp; done) | (simp; omega) | omega)
      clear kc2 kf2 kz2 ky2 kx2 kv2 ku2 hb2 q1_h_0 r1_h_0 q1_h_1 r1_h_1 q1_h_2 r1_h_2 z1_h q1_h_1_0 r1_h_1_0 q1_h_1_1 r1_h_1_1 q1_h_1_2 r1_h_1_2 z1_h_1 q1_h_1_1_0 r1_h_1_1_0 q1_h_1_1_1 r1_h_1_1_1 z1_h_1_1
      go_upto_region 3 with fail
      go_cut [6] (fun s6 wx => s6 = .int .i64 T ∧ wx = w2)
      case first =>
        rcases Int.lt_trichotomy s s' with hx | hx | hx
        · have e : T = s' := by omega
          clear hT
          subst e
          go_wp2_with fail
          go_meet
          exact ⟨rfl, rfl⟩
        · subst hx
          have e : T = s := by omega
          clear hT
          subst e
          go_wp2_with fail
          go_meet
          exact ⟨rfl, rfl⟩
        · have e : T = s := by omega
          clear hT
          subst e
          go_wp2_with fail
          go_meet
          exact ⟨rfl, rfl⟩
      case rest =>
        obtain ⟨rfl, hw⟩ := hcut
        subst hw
        clear hT
        have hR : Res8 (w.heap.size + 1 + 1) wc := ⟨_, _, q2_h_1_1_0, q2_h_1_1_1, r2_h_1_1_0, r2_h_1_1_1, z2_h_1_1⟩
        have bw : Below w.heap.size w wc := ha2
        have h20 : w.heap.size + 1 + 1 < wc.heap.size := z2_h_1_1
        clear q2_h_1_1_0 q2_h_1_1_1 r2_h_1_1_0 r2_h_1_1_1 r2_h_0 r2_h_1 r2_h_2 r2_h_1_0 r2_h_1_1 r2_h_1_2
        have wq1 : IntKind.i64.wrap (v - v') = v - v' := IntWalk.i64_in _ (by omega)
        go_upto_region 4 with fail
        go_cut [7, 8] (fun s7 s8 wx => s7 = .int .i64 L ∧ s8 = .int .i64 (v - v') ∧ Res8 (w.heap.size + 1 + 1) wx ∧ Below w.heap.size w wx)
        case first =>
          go_region_held3 (fun W => Below w.heap.size w W ∧ Res8 (w.heap.size + 1 + 1) W ∧ w.heap.size + 1 + 1 < W.heap.size ∧ W.cell? ⟨w.heap.size, 0, none⟩ = some (.int .i64 f) ∧ W.cell? ⟨w.heap.size, 1, none⟩ = some (.int .i64 s) ∧ W.cell? ⟨w.heap.size, 2, none⟩ = some (.int .i64 v) ∧ W.cell? ⟨w.heap.size + 1, 0, none⟩ = some (.int .i64 f') ∧ W.cell? ⟨w.heap.size + 1, 1, none⟩ = some (.int .i64 s') ∧ W.cell? ⟨w.heap.size + 1, 2, none⟩ = some (.int .i64 v')) (((go_split_ands; (repeat' with_reducible apply And.intro) <;> first | with_reducible assumption | with_reducible exact Below.refl _ _ | with_reducible exact Res8.drew (by with_reducible assumption) | with_reducible exact Res8.drew (Res8.alloc (by with_reducible assumption) _) | with_reducible exact Res8.alloc (by with_reducible assumption) _ | with_reducible exact (Res8.set (Res8.set (by with_reducible assumption) 0 _ (by omega)) 1 _ (by omega)) | with_reducible exact Res8.drew (Res8.set (Res8.set (by with_reducible assumption) 0 _ (by omega)) 1 _ (by omega)) | ((repeat (first | with_reducible exact Below.refl _ _ | with_reducible assumption | with_reducible refine balloc ?_ _ | with_reducible refine bdrew ?_ | with_reducible refine below_drewN ?_ _ | with_reducible refine bset ?_ ?_ _ | with_reducible exact Nat.le_refl _ | with_reducible refine bsize ?_ | (dsimp only; refine Nat.le_trans ?_ (Nat.le_add_right _ _)) | with_reducible refine Nat.le_trans ?_ (Nat.le_add_right _ _) | (with_reducible refine bstep ?_ (by assumption)))); done) | (simp [go_sem]; done) | (simp; omega) | (simp [go_sem, *]; done) | go_keep))) (first | (go_at_call 55; refine (HLd.out _).mono ?_; rintro e w3 ⟨rfl, hb3⟩; (try have fr := Res8.later (by first | with_reducible assumption | with_reducible exact Res8.drew (by with_reducible assumption) | with_reducible exact Res8.drew (Res8.alloc (by with_reducible assumption) _) | with_reducible exact Res8.alloc (by with_reducible assumption) _) hb3); (try (have fr2 := fr; obtain ⟨rx, ry, r1, r2, r3, r4, rz⟩ := fr2)); go_split_ands; (have f0 : Below w.heap.size w w3 := bstep (by first | with_reducible assumption | ((repeat (first | with_reducible exact Below.refl _ _ | with_reducible assumption | with_reducible refine balloc ?_ _ | with_reducible refine bdrew ?_ | with_reducible refine below_drewN ?_ _ | with_reducible refine bset ?_ ?_ _ | with_reducible exact Nat.le_refl _ | with_reducible refine bsize ?_ | (dsimp only; refine Nat.le_trans ?_ (Nat.le_add_right _ _)) | with_reducible refine Nat.le_trans ?_ (Nat.le_add_right _ _) | (with_reducible refine bstep ?_ (by assumption)))); done)) hb3); (have sz := hb3.size); (try simp only [go_sem] at sz); (have f1 : w3.cell? ⟨w.heap.size, 0, none⟩ = some (.int .i64 f) := keepa hb3 (by first | with_reducible assumption | omega | (simp; omega)) (by first | with_reducible assumption | (simp [go_sem]; done) | (simp [go_sem, *]; done))); (have f2 : w3.cell? ⟨w.heap.size, 1, none⟩ = some (.int .i64 s) := keepa hb3 (by first | with_reducible assumption | omega | (simp; omega)) (by first | with_reducible assumption | (simp [go_sem]; done) | (simp [go_sem, *]; done))); (have f3 : w3.cell? ⟨w.heap.size, 2, none⟩ = some (.int .i64 v) := keepa hb3 (by first | with_reducible assumption | omega | (simp; omega)) (by first | with_reducible assumption | (simp [go_sem]; done) | (simp [go_sem, *]; done))); (have f4 : w3.cell? ⟨w.heap.size + 1, 0, none⟩ = some (.int .i64 f') := keepa hb3 (by first | with_reducible assumption | omega | (simp; omega)) (by first | with_reducible assumption | (simp [go_sem]; done) | (simp [go_sem, *]; done))); (have f5 : w3.cell? ⟨w.heap.size + 1, 1, none⟩ = some (.int .i64 s') := keepa hb3 (by first | with_reducible assumption | omega | (simp; omega)) (by first | with_reducible assumption | (simp [go_sem]; done) | (simp [go_sem, *]; done))); (have f6 : w3.cell? ⟨w.heap.size + 1, 2, none⟩ = some (.int .i64 v') := keepa hb3 (by first | with_reducible assumption | omega | (simp; omega)) (by first | with_reducible assumption | (simp [go_sem]; done) | (simp [go_sem, *]; done))); (have fz : w.heap.size + 1 + 1 < w3.heap.size := by omega)))
          all_goals (go_wp2_with fail; go_meet)
          all_goals refine ⟨rfl, rfl, ?_, ?_⟩
          all_goals first | with_reducible assumption | with_reducible exact Res8.drew (by with_reducible assumption) | ((repeat (first | with_reducible exact Below.refl _ _ | with_reducible assumption | with_reducible refine balloc ?_ _ | with_reducible refine bdrew ?_ | with_reducible refine below_drewN ?_ _ | with_reducible refine bset ?_ ?_ _ | with_reducible exact Nat.le_refl _ | with_reducible refine bsize ?_ | (dsimp only; refine Nat.le_trans ?_ (Nat.le_add_right _ _)) | with_reducible refine Nat.le_trans ?_ (Nat.le_add_right _ _) | (with_reducible refine bstep ?_ (by assumption)))); done)
        case rest =>
          obtain ⟨rfl, rfl, ⟨rx, ry, r1, r2, r3, r4, rz⟩, bx⟩ := hcut
          clear q2_h_0 q2_h_1 q2_h_2 q2_h_1_0 q2_h_1_1 q2_h_1_2 hR bw h20 wq1 z2_h z2_h_1 z2_h_1_1 ha2 ha1
          obtain ⟨G, hG⟩ : ∃ G, G = v - v' := ⟨_, rfl⟩
          have hGb : -1000 ≤ G ∧ G ≤ 1000 := by omega
          have hG2 : v' - v = -G := by omega
          have cp2 : Hid (0 < L → 0 < G → N = L + T * G ∧ D = G) := by rw [hG]; exact cp
          have cpn2 : Hid (0 < L → ¬ 0 < G → N = 0 ∧ D = 0) := by rw [hG]; exact Lib.hid (fun a b => cpn.out a (by omega))
          have cm2 : Hid (L < 0 → 0 < -G → N = -L + T * -G ∧ D = -G) := by rw [← hG2]; exact cm
          have cmn2 : Hid (L < 0 → ¬ 0 < -G → N = 0 ∧ D = 0) := by rw [← hG2]; exact Lib.hid (fun a b => cmn.out a (by omega))
          rw [← hG]
          have pm := pm_bd hTb hGb (by omega)
          have pn : T * -G = -(T * G) := Int.mul_neg _ _
          clear cp cpn cm cmn hG hG2
          have HW := Lib.hid (fun W => whole8 T W)
          have HF := Lib.hid (fun (D : Int) (hD : D ≤ 1000) (x y : Int) hx hy W g h1 h2 => tf2 D x y (by omega) hx hy g W h1 h2)
          rcases Int.lt_trichotomy L 0 with hL | hL | hL
          · by_cases hv : 0 < (-G)
            · have ee := Lib.hid (cm2.out (by omega) (by omega))
              have m0 : 0 ≤ -(T * G) := by rw [← pn]; exact Int.mul_nonneg (by omega) (by omega)
              have hf := Lib.hid (HF.out (-G) (by omega) (-L) (-(T * G)) (by omega) (by omega))
              clear cp2 cpn2 cm2 cmn2 c0 HF
              go_wp2_with fail
              refine (hf.out _ _ (by simp [go_sem]) (by simp [go_sem])).mono ?_
              rintro e w4 ⟨rfl, hb4⟩
              (have rb : Below wc.heap.size wc w4 := bstep (by (repeat (first | with_reducible exact Below.refl _ _ | with_reducible assumption | with_reducible refine balloc ?_ _ | with_reducible refine bdrew ?_ | with_reducible refine below_drewN ?_ _ | with_reducible refine bset ?_ ?_ _ | with_reducible exact Nat.le_refl _ | with_reducible refine bsize ?_ | (dsimp only; refine Nat.le_trans ?_ (Nat.le_add_right _ _)) | with_reducible refine Nat.le_trans ?_ (Nat.le_add_right _ _) | (with_reducible refine bstep ?_ (by assumption))))) hb4); replace r1 := keepa rb rz r1; replace r2 := keepa rb rz r2; replace r3 := keepz rb rz r3; replace r4 := keepz rb rz r4; replace rz := Nat.lt_of_lt_of_le rz rb.size; clear rb
              go_wp2
              refine bodyPost_ret (v := .tuple #[.agg #[.int .i64 (lowN ((-L) + -(T * G)) (-G)), .int .i64 (lowD ((-L) + -(T * G)) (-G))], .bool (lowB ((-L) + -(T * G)) (-G))]) (by simp only [results, Try.results25]; go_simp) rfl ?_
              refine ⟨by obtain ⟨e1, e2⟩ := ee.out; rw [e1, e2, pn], ?_⟩
              (repeat (first | with_reducible exact Below.refl _ _ | with_reducible assumption | with_reducible refine balloc ?_ _ | with_reducible refine bdrew ?_ | with_reducible refine below_drewN ?_ _ | with_reducible refine bset ?_ ?_ _ | with_reducible exact Nat.le_refl _ | with_reducible refine bsize ?_ | (dsimp only; refine Nat.le_trans ?_ (Nat.le_add_right _ _)) | with_reducible refine Nat.le_trans ?_ (Nat.le_add_right _ _) | (with_reducible refine bstep ?_ (by assumption))))
            · have ee := Lib.hid (cmn2.out (by omega) (by omega))
              clear cp2 cpn2 cm2 cmn2 c0 HF
              go_wp2
              refine bodyPost_ret (v := .tuple #[.agg #[.int .i64 0, .int .i64 0], .bool false]) (by simp only [results, Try.results25]; go_simp) rfl ?_
              refine ⟨by obtain ⟨e1, e2⟩ := ee.out; rw [e1, e2, (low_0 _).1, (low_0 _).2.1, (low_0 _).2.2], ?_⟩
              (repeat (first | with_reducible exact Below.refl _ _ | with_reducible assumption | with_reducible refine balloc ?_ _ | with_reducible refine bdrew ?_ | with_reducible refine below_drewN ?_ _ | with_reducible refine bset ?_ ?_ _ | with_reducible exact Nat.le_refl _ | with_reducible refine bsize ?_ | (dsimp only; refine Nat.le_trans ?_ (Nat.le_add_right _ _)) | with_reducible refine Nat.le_trans ?_ (Nat.le_add_right _ _) | (with_reducible refine bstep ?_ (by assumption))))
          · have ee := Lib.hid (c0.out hL)
            clear cp2 cpn2 cm2 cmn2 c0 HF
            go_wp2_with fail
            refine (HW.out _).mono ?_
            rintro e w4 ⟨rfl, hb4⟩
            (have rb : Below wc.heap.size wc w4 := bstep (by (repeat (first | with_reducible exact Below.refl _ _ | with_reducible assumption | with_reducible refine balloc ?_ _ | with_reducible refine bdrew ?_ | with_reducible refine below_drewN ?_ _ | with_reducible refine bset ?_ ?_ _ | with_reducible exact Nat.le_refl _ | with_reducible refine bsize ?_ | (dsimp only; refine Nat.le_trans ?_ (Nat.le_add_right _ _)) | with_reducible refine Nat.le_trans ?_ (Nat.le_add_right _ _) | (with_reducible refine bstep ?_ (by assumption))))) hb4); replace r1 := keepa rb rz r1; replace r2 := keepa rb rz r2; replace r3 := keepz rb rz r3; replace r4 := keepz rb rz r4; replace rz := Nat.lt_of_lt_of_le rz rb.size; clear rb
            go_wp2
            refine bodyPost_ret (v := .tuple #[.agg #[.int .i64 T, .int .i64 1], .bool true]) (by simp only [results, Try.results25]; go_simp) rfl ?_
            refine ⟨by obtain ⟨e1, e2⟩ := ee.out; rw [e1, e2, (low_one T hTb.1 (by omega)).1, (low_one T hTb.1 (by omega)).2.1, (low_one T hTb.1 (by omega)).2.2], ?_⟩
            (repeat (first | with_reducible exact Below.refl _ _ | with_reducible assumption | with_reducible refine balloc ?_ _ | with_reducible refine bdrew ?_ | with_reducible refine below_drewN ?_ _ | with_reducible refine bset ?_ ?_ _ | with_reducible exact Nat.le_refl _ | with_reducible refine bsize ?_ | (dsimp only; refine Nat.le_trans ?_ (Nat.le_add_right _ _)) | with_reducible refine Nat.le_trans ?_ (Nat.le_add_right _ _) | (with_reducible refine bstep ?_ (by assumption))))
          · by_cases hv : 0 < G
            · have ee := Lib.hid (cp2.out (by omega) (by omega))
              have m0 : 0 ≤ T * G := Int.mul_nonneg (by omega) (by omega)
              have hf := Lib.hid (HF.out G (by omega) L (T * G) (by omega) (by omega))
              clear cp2 cpn2 cm2 cmn2 c0 HF
              go_wp2_with fail
              refine (hf.out _ _ (by simp [go_sem]) (by simp [go_sem])).mono ?_
              rintro e w4 ⟨rfl, hb4⟩
              (have rb : Below wc.heap.size wc w4 := bstep (by (repeat (first | with_reducible exact Below.refl _ _ | with_reducible assumption | with_reducible refine balloc ?_ _ | with_reducible refine bdrew ?_ | with_reducible refine below_drewN ?_ _ | with_reducible refine bset ?_ ?_ _ | with_reducible exact Nat.le_refl _ | with_reducible refine bsize ?_ | (dsimp only; refine Nat.le_trans ?_ (Nat.le_add_right _ _)) | with_reducible refine Nat.le_trans ?_ (Nat.le_add_right _ _) | (with_reducible refine bstep ?_ (by assumption))))) hb4); replace r1 := keepa rb rz r1; replace r2 := keepa rb rz r2; replace r3 := keepz rb rz r3; replace r4 := keepz rb rz r4; replace rz := Nat.lt_of_lt_of_le rz rb.size; clear rb
              go_wp2
              refine bodyPost_ret (v := .tuple #[.agg #[.int .i64 (lowN (L + T * G) G), .int .i64 (lowD (L + T * G) G)], .bool (lowB (L + T * G) G)]) (by simp only [results, Try.results25]; go_simp) rfl ?_
              refine ⟨by obtain ⟨e1, e2⟩ := ee.out; rw [e1, e2], ?_⟩
              (repeat (first | with_reducible exact Below.refl _ _ | with_reducible assumption | with_reducible refine balloc ?_ _ | with_reducible refine bdrew ?_ | with_reducible refine below_drewN ?_ _ | with_reducible refine bset ?_ ?_ _ | with_reducible exact Nat.le_refl _ | with_reducible refine bsize ?_ | (dsimp only; refine Nat.le_trans ?_ (Nat.le_add_right _ _)) | with_reducible refine Nat.le_trans ?_ (Nat.le_add_right _ _) | (with_reducible refine bstep ?_ (by assumption))))
            · have ee := Lib.hid (cpn2.out (by omega) (by omega))
              clear cp2 cpn2 cm2 cmn2 c0 HF
              go_wp2
              refine bodyPost_ret (v := .tuple #[.agg #[.int .i64 0, .int .i64 0], .bool false]) (by simp only [results, Try.results25]; go_simp) rfl ?_
              refine ⟨by obtain ⟨e1, e2⟩ := ee.out; rw [e1, e2, (low_0 _).1, (low_0 _).2.1, (low_0 _).2.2], ?_⟩
              (repeat (first | with_reducible exact Below.refl _ _ | with_reducible assumption | with_reducible refine balloc ?_ _ | with_reducible refine bdrew ?_ | with_reducible refine below_drewN ?_ _ | with_reducible refine bset ?_ ?_ _ | with_reducible exact Nat.le_refl _ | with_reducible refine bsize ?_ | (dsimp only; refine Nat.le_trans ?_ (Nat.le_add_right _ _)) | with_reducible refine Nat.le_trans ?_ (Nat.le_add_right _ _) | (with_reducible refine bstep ?_ (by assumption))))
set_option maxHeartbeats 6400000 in
theorem catchP_impl (f s v f' s' v' : Int) (b2 : -9223372036854775808 ≤ v ∧ v ≤ 9223372036854775807) (b5 : -9223372036854775808 ≤ v' ∧ v' ≤ 9223372036854775807) (w : World) :
    Calls Try.prog 27 #[.agg #[.int .i64 f, .int .i64 s, .int .i64 v], .agg #[.int .i64 f', .int .i64 s', .int .i64 v']] w fun e w' => e = .returned (.tuple #[.agg #[.int .i64 (twoN (crB f s v && crB f' s' v') (cpN f s v (ctN f s v f' s' v') (ctD f s v f' s' v')) (ctD f s v f' s' v')), .int .i64 (twoD (crB f s v && crB f' s' v') (cpN f s v (ctN f s v f' s' v') (ctD f s v f' s' v')) (ctD f s v f' s' v'))], .bool (twoB (crB f s v && crB f' s' v') (cpN f s v (ctN f s v f' s' v') (ctD f s v f' s' v')) (ctD f s v f' s' v'))]) ∧ Below w.heap.size w w' := by
  have HT := Lib.hid (fun W => catchT_impl f s v f' s' v' b2 b5 W)
  cases hB : twoB (crB f s v && crB f' s' v') (ctN f s v f' s' v') (ctD f s v f' s' v')
  · have hz : twoB (crB f s v && crB f' s' v') (cpN f s v (ctN f s v f' s' v') (ctD f s v f' s' v')) (ctD f s v f' s' v') = false ∧ twoN (crB f s v && crB f' s' v') (cpN f s v (ctN f s v f' s' v') (ctD f s v f' s' v')) (ctD f s v f' s' v') = 0 ∧ twoD (crB f s v && crB f' s' v') (cpN f s v (ctN f s v f' s' v') (ctD f s v f' s' v')) (ctD f s v f' s' v') = 0 := by
      cases hk : (crB f s v && crB f' s' v')
      · exact ⟨(two_no _ _).2.2, (two_no _ _).1, (two_no _ _).2.1⟩
      · rw [Bool.and_eq_true] at hk
        obtain ⟨bL, bN, bD⟩ := ct_bd hk.1 hk.2
        have hl : lowB (ctN f s v f' s' v') (ctD f s v f' s' v') = false := by rw [hk.1, hk.2] at hB; simpa [twoB] using hB
        have h0 : (ctD f s v f' s' v') = 0 := by
          by_cases h1 : 1 ≤ (ctD f s v f' s' v')
          · rw [low_small _ _ bN.1 (by omega) h1 (by omega)] at hl; cases hl
          · omega
        rw [h0, (two_yes _ _).1, (two_yes _ _).2.1, (two_yes _ _).2.2]
        exact ⟨(low_0 _).1, (low_0 _).2.1, (low_0 _).2.2⟩
    rw [hz.1, hz.2.1, hz.2.2]
    rw [hB] at HT
    clear hz hB
    generalize twoN (crB f s v && crB f' s' v') (ctN f s v f' s' v') (ctD f s v f' s' v') = X at *
    generalize twoD (crB f s v && crB f' s' v') (ctN f s v f' s' v') (ctD f s v f' s' v') = Y at *
    go_enter Try.func27, Try.ntmps27
    (go_wp2_with fail; refine (HT.out _).mono ?_; rintro e w1 ⟨rfl, hb1⟩; (have ha1 : Below w.heap.size w w1 := by (repeat (first | with_reducible exact Below.refl _ _ | with_reducible assumption | with_reducible refine balloc ?_ _ | with_reducible refine bdrew ?_ | with_reducible refine below_drewN ?_ _ | with_reducible refine bset ?_ ?_ _ | with_reducible exact Nat.le_refl _ | with_reducible refine bsize ?_ | (dsimp only; refine Nat.le_trans ?_ (Nat.le_add_right _ _)) | with_reducible refine Nat.le_trans ?_ (Nat.le_add_right _ _) | (with_reducible refine bstep ?_ (by assumption))))); obtain ⟨kc1, kf1, kz1, ky1, kx1, kv1, ku1⟩ := bcell hb1)
    have q1_h_1_1_0 : w1.cell? ⟨w.heap.size + 1 + 1, 0, none⟩ = some (.int .i64 0) := by rw [kc1 _ _ (by first | assumption | (simp; done) | (simp; omega) | omega)]; simp [go_sem]
    have r1_h_1_1_0 : w1.frozen? ⟨w.heap.size + 1 + 1, 0, none⟩ = false := by rw [kf1 _ _ (by first | assumption | (simp; done) | (simp; omega) | omega)]; simp [go_sem]
    have q1_h_1_1_1 : w1.cell? ⟨w.heap.size + 1 + 1, 1, none⟩ = some (.int .i64 0) := by rw [kc1 _ _ (by first | assumption | (simp; done) | (simp; omega) | omega)]; simp [go_sem]
    have r1_h_1_1_1 : w1.frozen? ⟨w.heap.size + 1 + 1, 1, none⟩ = false := by rw [kf1 _ _ (by first | assumption | (simp; done) | (simp; omega) | omega)]; simp [go_sem]
    have z1_h_1_1 : w.heap.size + 1 + 1 < w1.heap.size := kz1 _ (by first | assumption | (simp; done) | (simp; omega) | omega)
    clear kc1 kf1 kz1 ky1 kx1 kv1 ku1 hb1
    go_wp2
    refine bodyPost_ret (v := .tuple #[.agg #[.int .i64 0, .int .i64 0], .bool false]) (by simp only [results, Try.results27]; go_simp) rfl ⟨rfl, ?_⟩
    (repeat (first | with_reducible exact Below.refl _ _ | with_reducible assumption | with_reducible refine balloc ?_ _ | with_reducible refine bdrew ?_ | with_reducible refine below_drewN ?_ _ | with_reducible refine bset ?_ ?_ _ | with_reducible exact Nat.le_refl _ | with_reducible refine bsize ?_ | (dsimp only; refine Nat.le_trans ?_ (Nat.le_add_right _ _)) | with_reducible refine Nat.le_trans ?_ (Nat.le_add_right _ _) | (with_reducible refine bstep ?_ (by assumption))))
  · have hk : (crB f s v && crB f' s' v') = true := by
      cases hk : (crB f s v && crB f' s' v')
      · rw [hk, (two_no _ _).2.2] at hB; cases hB
      · rfl
    have h12 := hk
    rw [Bool.and_eq_true] at h12
    obtain ⟨bL, bN, bD⟩ := ct_bd h12.1 h12.2
    obtain ⟨f0, s0, v0⟩ := crB_yes h12.1
    rw [hk] at hB HT ⊢
    rw [(two_yes _ _).1, (two_yes _ _).2.1, (two_yes _ _).2.2] at HT ⊢
    rw [(two_yes _ _).2.2] at hB
    rw [hB] at HT
    clear hk bL h12
    generalize ctN f s v f' s' v' = N at *
    generalize ctD f s v f' s' v' = D at *
    have e0 := cp_low f s v N D hB
    have e1 := low_eq N D hB
    have e2 := low_le N D hB
    rw [← e0.1, ← e0.2.1, ← e0.2.2]
    clear e0 hB
    generalize lowN N D = x at *
    generalize lowD N D = y at *
    have hx : 0 ≤ x ∧ x ≤ 10000000000 := by omega
    have hy : 1 ≤ y ∧ y ≤ 1000000 := by omega
    have HP := Lib.hid (fun W => placeAt_impl f s v x y (cp_bd f0 s0 v0 hx hy) hx hy W)
    clear e1 e2
    obtain ⟨R1, hR1⟩ : ∃ R, lowN (cpN f s v x y) y = R := ⟨_, rfl⟩
    obtain ⟨R2, hR2⟩ : ∃ R, lowD (cpN f s v x y) y = R := ⟨_, rfl⟩
    obtain ⟨R3, hR3⟩ : ∃ R, lowB (cpN f s v x y) y = R := ⟨_, rfl⟩
    rw [hR1, hR2, hR3]; rw [hR1, hR2, hR3] at HP
    clear hR1 hR2 hR3
    go_enter Try.func27, Try.ntmps27
    (go_wp2_with fail; refine (HT.out _).mono ?_; rintro e w1 ⟨rfl, hb1⟩; (have ha1 : Below w.heap.size w w1 := by (repeat (first | with_reducible exact Below.refl _ _ | with_reducible assumption | with_reducible refine balloc ?_ _ | with_reducible refine bdrew ?_ | with_reducible refine below_drewN ?_ _ | with_reducible refine bset ?_ ?_ _ | with_reducible exact Nat.le_refl _ | with_reducible refine bsize ?_ | (dsimp only; refine Nat.le_trans ?_ (Nat.le_add_right _ _)) | with_reducible refine Nat.le_trans ?_ (Nat.le_add_right _ _) | (with_reducible refine bstep ?_ (by assumption))))); obtain ⟨kc1, kf1, kz1, ky1, kx1, kv1, ku1⟩ := bcell hb1)
    have q1_h_0 : w1.cell? ⟨w.heap.size, 0, none⟩ = some (.int .i64 f) := by rw [kc1 _ _ (by first | assumption | (simp; done) | (simp; omega) | omega)]; simp [go_sem]
    have r1_h_0 : w1.frozen? ⟨w.heap.size, 0, none⟩ = false := by rw [kf1 _ _ (by first | assumption | (simp; done) | (simp; omega) | omega)]; simp [go_sem]
    have q1_h_1 : w1.cell? ⟨w.heap.size, 1, none⟩ = some (.int .i64 s) := by rw [kc1 _ _ (by first | assumption | (simp; done) | (simp; omega) | omega)]; simp [go_sem]
    have r1_h_1 : w1.frozen? ⟨w.heap.size, 1, none⟩ = false := by rw [kf1 _ _ (by first | assumption | (simp; done) | (simp; omega) | omega)]; simp [go_sem]
    have q1_h_2 : w1.cell? ⟨w.heap.size, 2, none⟩ = some (.int .i64 v) := by rw [kc1 _ _ (by first | assumption | (simp; done) | (simp; omega) | omega)]; simp [go_sem]
    have r1_h_2 : w1.frozen? ⟨w.heap.size, 2, none⟩ = false := by rw [kf1 _ _ (by first | assumption | (simp; done) | (simp; omega) | omega)]; simp [go_sem]
    have z1_h : w.heap.size < w1.heap.size := kz1 _ (by first | assumption | (simp; done) | (simp; omega) | omega)
    have q1_h_1_1_0 : w1.cell? ⟨w.heap.size + 1 + 1, 0, none⟩ = some (.int .i64 0) := by rw [kc1 _ _ (by first | assumption | (simp; done) | (simp; omega) | omega)]; simp [go_sem]
    have r1_h_1_1_0 : w1.frozen? ⟨w.heap.size + 1 + 1, 0, none⟩ = false := by rw [kf1 _ _ (by first | assumption | (simp; done) | (simp; omega) | omega)]; simp [go_sem]
    have q1_h_1_1_1 : w1.cell? ⟨w.heap.size + 1 + 1, 1, none⟩ = some (.int .i64 0) := by rw [kc1 _ _ (by first | assumption | (simp; done) | (simp; omega) | omega)]; simp [go_sem]
    have r1_h_1_1_1 : w1.frozen? ⟨w.heap.size + 1 + 1, 1, none⟩ = false := by rw [kf1 _ _ (by first | assumption | (simp; done) | (simp; omega) | omega)]; simp [go_sem]
    have z1_h_1_1 : w.heap.size + 1 + 1 < w1.heap.size := kz1 _ (by first | assumption | (simp; done) | (simp; omega) | omega)
    clear kc1 kf1 kz1 ky1 kx1 kv1 ku1 hb1
    (go_wp2_with fail; refine (HP.out _).mono ?_; rintro e w2 ⟨rfl, hb2⟩; (have ha2 : Below w.heap.size w w2 := by (repeat (first | with_reducible exact Below.refl _ _ | with_reducible assumption | with_reducible refine balloc ?_ _ | with_reducible refine bdrew ?_ | with_reducible refine below_drewN ?_ _ | with_reducible refine bset ?_ ?_ _ | with_reducible exact Nat.le_refl _ | with_reducible refine bsize ?_ | (dsimp only; refine Nat.le_trans ?_ (Nat.le_add_right _ _)) | with_reducible refine Nat.le_trans ?_ (Nat.le_add_right _ _) | (with_reducible refine bstep ?_ (by assumption))))); obtain ⟨kc2, kf2, kz2, ky2, kx2, kv2, ku2⟩ := bcell hb2)
    have q2_h_1_1_0 : w2.cell? ⟨w.heap.size + 1 + 1, 0, none⟩ = some (.int .i64 0) := by rw [kc2 _ _ (by first | assumption | (simp; done) | (simp; omega) | omega)]; simp [go_sem, q1_h_0, r1_h_0, q1_h_1, r1_h_1, q1_h_2, r1_h_2, z1_h, q1_h_1_1_0, r1_h_1_1_0, q1_h_1_1_1, r1_h_1_1_1, z1_h_1_1]
    have r2_h_1_1_0 : w2.frozen? ⟨w.heap.size + 1 + 1, 0, none⟩ = false := by rw [kf2 _ _ (by first | assumption | (simp; done) | (simp; omega) | omega)]; simp [go_sem, q1_h_0, r1_h_0, q1_h_1, r1_h_1, q1_h_2, r1_h_2, z1_h, q1_h_1_1_0, r1_h_1_1_0, q1_h_1_1_1, r1_h_1_1_1, z1_h_1_1]
    have q2_h_1_1_1 : w2.cell? ⟨w.heap.size + 1 + 1, 1, none⟩ = some (.int .i64 0) := by rw [kc2 _ _ (by first | assumption | (simp; done) | (simp; omega) | omega)]; simp [go_sem, q1_h_0, r1_h_0, q1_h_1, r1_h_1, q1_h_2, r1_h_2, z1_h, q1_h_1_1_0, r1_h_1_1_0, q1_h_1_1_1, r1_h_1_1_1, z1_h_1_1]
    have r2_h_1_1_1 : w2.frozen? ⟨w.heap.size + 1 + 1, 1, none⟩ = false := by rw [kf2 _ _ (by first | assumption | (simp; done) | (simp; omega) | omega)]; simp [go_sem, q1_h_0, r1_h_0, q1_h_1, r1_h_1, q1_h_2, r1_h_2, z1_h, q1_h_1_1_0, r1_h_1_1_0, q1_h_1_1_1, r1_h_1_1_1, z1_h_1_1]
    have z2_h_1_1 : w.heap.size + 1 + 1 < w2.heap.size := kz2 _ (by first | assumption | (simp; done) | (simp; omega) | omega)
    clear kc2 kf2 kz2 ky2 kx2 kv2 ku2 hb2 q1_h_0 r1_h_0 q1_h_1 r1_h_1 q1_h_2 r1_h_2 z1_h q1_h_1_1_0 r1_h_1_1_0 q1_h_1_1_1 r1_h_1_1_1 z1_h_1_1
    go_wp2
    refine bodyPost_ret (v := .tuple #[.agg #[.int .i64 R1, .int .i64 R2], .bool R3]) (by simp only [results, Try.results27]; go_simp) rfl ⟨rfl, ?_⟩
    (repeat (first | with_reducible exact Below.refl _ _ | with_reducible assumption | with_reducible refine balloc ?_ _ | with_reducible refine bdrew ?_ | with_reducible refine below_drewN ?_ _ | with_reducible refine bset ?_ ?_ _ | with_reducible exact Nat.le_refl _ | with_reducible refine bsize ?_ | (dsimp only; refine Nat.le_trans ?_ (Nat.le_add_right _ _)) | with_reducible refine Nat.le_trans ?_ (Nat.le_add_right _ _) | (with_reducible refine bstep ?_ (by assumption))))
end Go.Proofs.Ythfaljninmcopaa
