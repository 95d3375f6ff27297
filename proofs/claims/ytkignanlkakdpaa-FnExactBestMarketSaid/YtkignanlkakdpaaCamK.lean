/- Camels: LeftAt, FarthestWith: contracts. -/
import Derived.Test.YtkignanlkakdpaaCamL
import Derived.Deep.RegionHeld3
import Derived.Deep.DeepCutAuto
namespace Go.Proofs.Ytkignanlkakdpaa
open Go.ChangeShapes Go.WideShapes Go.ChangeAt Go.RowKit Go.Joins
set_option maxRecDepth 100000
set_option linter.unusedVariables false
set_option linter.unusedSimpArgs false

set_option maxHeartbeats 1600000 in
theorem leftAt_spec (L E n d p q : Int) (bn : -9223372036854775808 ≤ n ∧ n ≤ 9223372036854775807) (bd : -9223372036854775808 ≤ d ∧ d ≤ 9223372036854775807) (bp : -9223372036854775808 ≤ p ∧ p ≤ 9223372036854775807) (bq : -9223372036854775808 ≤ q ∧ q ≤ 9223372036854775807) (w : World) :
    Calls Try.prog 26 #[.agg #[.int .i64 L, .int .i64 E], .agg #[.int .i64 n, .int .i64 d], .agg #[.int .i64 p, .int .i64 q]] w fun e w' => e = .returned (.tuple #[.agg #[.int .i64 (twoN (leftAtK L E n d p q) (leftAtX L E n d p q) (leftAtM L E n d p q)), .int .i64 (twoD (leftAtK L E n d p q) (leftAtX L E n d p q) (leftAtM L E n d p q))], .bool (twoB (leftAtK L E n d p q) (leftAtX L E n d p q) (leftAtM L E n d p q))]) ∧ Below w.heap.size w w' := by
  have HA := Lib.hid (fun W => ask_spec L E n d bn bd W)
  have HP := Lib.hid (fun W => place_spec p q bp bq W)
  cases h1 : askB L E n d
  · obtain ⟨e1, e2, e3⟩ := no_low (leftAtK L E n d p q) (leftAtX L E n d p q) (leftAtM L E n d p q) (by simp [leftAtK, h1])
    rw [e1, e2, e3]
    rw [h1] at HA
    clear e1 e2 e3 h1
    go_enter Try.func26, Try.ntmps26
    (go_wp2_with fail; refine (HA.out _).mono ?_; rintro e w1 ⟨rfl, hb1⟩; have ha1 := hb1; obtain ⟨kc1, kf1, kz1, ky1, kx1, kv1, ku1⟩ := bcell hb1)
    go_wp2
    refine bodyPost_ret (v := .tuple #[.agg #[.int .i64 0, .int .i64 0], .bool false]) (by simp only [results, Try.results26]; go_simp) rfl ⟨rfl, ?_⟩
    (repeat (first | with_reducible exact Below.refl _ _ | with_reducible assumption | with_reducible refine balloc ?_ _ | with_reducible refine bdrew ?_ | with_reducible refine below_drewN ?_ _ | with_reducible refine bset ?_ ?_ _ | with_reducible exact Nat.le_refl _ | with_reducible refine bsize ?_ | (dsimp only; refine Nat.le_trans ?_ (Nat.le_add_right _ _)) | with_reducible refine Nat.le_trans ?_ (Nat.le_add_right _ _) | (with_reducible refine bstep ?_ (by assumption))))
  · cases h2 : plB p q
    · obtain ⟨e1, e2, e3⟩ := no_low (leftAtK L E n d p q) (leftAtX L E n d p q) (leftAtM L E n d p q) (by simp [leftAtK, h2])
      rw [e1, e2, e3]
      rw [h1] at HA
      rw [h2] at HP
      clear e1 e2 e3 h1 h2
      go_enter Try.func26, Try.ntmps26
      (go_wp2_with fail; refine (HA.out _).mono ?_; rintro e w1 ⟨rfl, hb1⟩; have ha1 := hb1; obtain ⟨kc1, kf1, kz1, ky1, kx1, kv1, ku1⟩ := bcell hb1)
      (go_wp2_with fail; refine (HP.out _).mono ?_; rintro e w2 ⟨rfl, hb2⟩; have ha2 := bjoin ha1 hb2 (by (repeat (first | with_reducible exact Below.refl _ _ | with_reducible assumption | with_reducible refine balloc ?_ _ | with_reducible refine bdrew ?_ | with_reducible refine below_drewN ?_ _ | with_reducible refine bset ?_ ?_ _ | with_reducible exact Nat.le_refl _ | with_reducible refine bsize ?_ | (dsimp only; refine Nat.le_trans ?_ (Nat.le_add_right _ _)) | with_reducible refine Nat.le_trans ?_ (Nat.le_add_right _ _) | (with_reducible refine bstep ?_ (by assumption))))); obtain ⟨kc2, kf2, kz2, ky2, kx2, kv2, ku2⟩ := bcell hb2; obtain ⟨jc2, jf2, jz2, jy2, jx2, jv2, ju2⟩ := bcell ha2)
      go_wp2
      refine bodyPost_ret (v := .tuple #[.agg #[.int .i64 0, .int .i64 0], .bool false]) (by simp only [results, Try.results26]; go_simp) rfl ⟨rfl, ?_⟩
      (repeat (first | with_reducible exact Below.refl _ _ | with_reducible assumption | with_reducible refine balloc ?_ _ | with_reducible refine bdrew ?_ | with_reducible refine below_drewN ?_ _ | with_reducible refine bset ?_ ?_ _ | with_reducible exact Nat.le_refl _ | with_reducible refine bsize ?_ | (dsimp only; refine Nat.le_trans ?_ (Nat.le_add_right _ _)) | with_reducible refine Nat.le_trans ?_ (Nat.le_add_right _ _) | (with_reducible refine bstep ?_ (by assumption))))
    · have hk : leftAtK L E n d p q = true := by simp [leftAtK, h1, h2]
      rw [hk, (two_yes _ _).1, (two_yes _ _).2.1, (two_yes _ _).2.2]
      obtain ⟨i1, i2, i3, i4⟩ := askB_yes L E n d h1
      obtain ⟨i5, i6⟩ := plB_yes p q h2
      obtain ⟨j1, j2, j3, j4⟩ := camB_yes L E i1
      obtain ⟨x1, x2, x3, x4⟩ := am_of n d i2
      obtain ⟨y1, y2, y3, y4⟩ := am_of p q i5
      have HC := Lib.hid (fun W => caLeft_spec L E n d p q _ (cam_in L E d n j1 j2 j3 j4 x3 i3 x1 i4) rfl y1 y2 y3 i6 W)
      rw [h1] at HA
      rw [h2] at HP
      generalize leftAtX L E n d p q = X at *
      generalize leftAtM L E n d p q = M at *
      clear hk h1 h2 i1 i2 i5
      go_enter Try.func26, Try.ntmps26
      (go_wp2_with fail; refine (HA.out _).mono ?_; rintro e w1 ⟨rfl, hb1⟩; have ha1 := hb1; obtain ⟨kc1, kf1, kz1, ky1, kx1, kv1, ku1⟩ := bcell hb1)
      have r1 : w1.cell? ⟨w.heap.size + 1 + 1 + 1, 0, none⟩ = some (.int .i64 0) := (by rw [kc1 (w.heap.size + 1 + 1 + 1) _ (by first | (simp; done) | (simp; omega))]; first | (simp; done) | (simp [go_sem]; done)); have r2 : w1.cell? ⟨w.heap.size + 1 + 1 + 1, 1, none⟩ = some (.int .i64 0) := (by rw [kc1 (w.heap.size + 1 + 1 + 1) _ (by first | (simp; done) | (simp; omega))]; first | (simp; done) | (simp [go_sem]; done)); have r3 : w1.frozen? ⟨w.heap.size + 1 + 1 + 1, 0, none⟩ = false := (by rw [kf1 (w.heap.size + 1 + 1 + 1) _ (by first | (simp; done) | (simp; omega))]; first | (simp; done) | (simp [go_sem]; done)); have r4 : w1.frozen? ⟨w.heap.size + 1 + 1 + 1, 1, none⟩ = false := (by rw [kf1 (w.heap.size + 1 + 1 + 1) _ (by first | (simp; done) | (simp; omega))]; first | (simp; done) | (simp [go_sem]; done)); have rz : w.heap.size + 1 + 1 + 1 < w1.heap.size := kz1 (w.heap.size + 1 + 1 + 1) (by first | (simp; done) | (simp; omega))
      (go_wp2_with fail; refine (HP.out _).mono ?_; rintro e w2 ⟨rfl, hb2⟩; have ha2 := bjoin ha1 hb2 (by (repeat (first | with_reducible exact Below.refl _ _ | with_reducible assumption | with_reducible refine balloc ?_ _ | with_reducible refine bdrew ?_ | with_reducible refine below_drewN ?_ _ | with_reducible refine bset ?_ ?_ _ | with_reducible exact Nat.le_refl _ | with_reducible refine bsize ?_ | (dsimp only; refine Nat.le_trans ?_ (Nat.le_add_right _ _)) | with_reducible refine Nat.le_trans ?_ (Nat.le_add_right _ _) | (with_reducible refine bstep ?_ (by assumption))))); obtain ⟨kc2, kf2, kz2, ky2, kx2, kv2, ku2⟩ := bcell hb2; obtain ⟨jc2, jf2, jz2, jy2, jx2, jv2, ju2⟩ := bcell ha2)
      (have rb : Below w1.heap.size w1 w2 := bstep (by (repeat (first | with_reducible exact Below.refl _ _ | with_reducible assumption | with_reducible refine balloc ?_ _ | with_reducible refine bdrew ?_ | with_reducible refine below_drewN ?_ _ | with_reducible refine bset ?_ ?_ _ | with_reducible exact Nat.le_refl _ | with_reducible refine bsize ?_ | (dsimp only; refine Nat.le_trans ?_ (Nat.le_add_right _ _)) | with_reducible refine Nat.le_trans ?_ (Nat.le_add_right _ _) | (with_reducible refine bstep ?_ (by assumption))))) hb2); replace r1 := keepa rb rz r1; replace r2 := keepa rb rz r2; replace r3 := keepz rb rz r3; replace r4 := keepz rb rz r4; replace rz := Nat.lt_of_lt_of_le rz rb.size; clear rb
      (go_wp2_with fail; refine (HC.out _).mono ?_; rintro e w3 ⟨rfl, hb3⟩; (have ha3 : Below w.heap.size w w3 := by (repeat (first | with_reducible exact Below.refl _ _ | with_reducible assumption | with_reducible refine balloc ?_ _ | with_reducible refine bdrew ?_ | with_reducible refine below_drewN ?_ _ | with_reducible refine bset ?_ ?_ _ | with_reducible exact Nat.le_refl _ | with_reducible refine bsize ?_ | (dsimp only; refine Nat.le_trans ?_ (Nat.le_add_right _ _)) | with_reducible refine Nat.le_trans ?_ (Nat.le_add_right _ _) | (with_reducible refine bstep ?_ (by assumption))))); obtain ⟨kc3, kf3, kz3, ky3, kx3, kv3, ku3⟩ := bcell hb3)
      (have rb : Below w2.heap.size w2 w3 := bstep (by (repeat (first | with_reducible exact Below.refl _ _ | with_reducible assumption | with_reducible refine balloc ?_ _ | with_reducible refine bdrew ?_ | with_reducible refine below_drewN ?_ _ | with_reducible refine bset ?_ ?_ _ | with_reducible exact Nat.le_refl _ | with_reducible refine bsize ?_ | (dsimp only; refine Nat.le_trans ?_ (Nat.le_add_right _ _)) | with_reducible refine Nat.le_trans ?_ (Nat.le_add_right _ _) | (with_reducible refine bstep ?_ (by assumption))))) hb3); replace r1 := keepa rb rz r1; replace r2 := keepa rb rz r2; replace r3 := keepz rb rz r3; replace r4 := keepz rb rz r4; replace rz := Nat.lt_of_lt_of_le rz rb.size; clear rb
      go_wp2
      refine bodyPost_ret (v := .tuple #[.agg #[.int .i64 (lowN (X) (M)), .int .i64 (lowD (X) (M))], .bool (lowB (X) (M))]) (by simp only [results, Try.results26]; go_simp) rfl ⟨rfl, ?_⟩
      (repeat (first | with_reducible exact Below.refl _ _ | with_reducible assumption | with_reducible refine balloc ?_ _ | with_reducible refine bdrew ?_ | with_reducible refine below_drewN ?_ _ | with_reducible refine bset ?_ ?_ _ | with_reducible exact Nat.le_refl _ | with_reducible refine bsize ?_ | (dsimp only; refine Nat.le_trans ?_ (Nat.le_add_right _ _)) | with_reducible refine Nat.le_trans ?_ (Nat.le_add_right _ _) | (with_reducible refine bstep ?_ (by assumption))))
/-- The farthest place, told by the model and by the program. -/
theorem far_low {L E d n : Int} {t : Nat} (h : CamIn L E d n t) : lowB (paX L E d n t t) (paY L E d n t t) = lowB (wayWithX L E n d 0 1) (wayWithM L E n d 0 1) ∧ lowN (paX L E d n t t) (paY L E d n t t) = lowN (wayWithX L E n d 0 1) (wayWithM L E n d 0 1) ∧ lowD (paX L E d n t t) (paY L E d n t t) = lowD (wayWithX L E n d 0 1) (wayWithM L E n d 0 1) := by
  obtain ⟨l1, l2⟩ := h.ld
  have hdE := h.dE
  have hr := rd_is (paA L d n t t) (3465 * (d * E)) (by omega)
  have hY := (pa_bd h t (Nat.le_refl _)).2.2.1
  have e0 : dS (L * d) 0 = 0 := by
    have h0 := dS_whole (L * d) 0 (by omega) l1
    simp [dC] at h0
    exact h0
  have eA : paA L d n t t = dS (L * d) n := by
    have ht := h.ht.a
    unfold paA paU
    rw [if_neg (by omega), show (t : Int) - t = 0 by omega, Int.zero_mul, e0]; omega
  have eX : wayWithX L E n d 0 1 = dS (L * d) n := by
    unfold wayWithX
    rw [Int.mul_one, Int.one_mul, Int.mul_zero, e0]; omega
  have eM : wayWithM L E n d 0 1 = 3465 * (d * E) := by unfold wayWithM; rw [Int.mul_one]; ac_rfl
  rw [eX, eM, ← eA]
  have hs := lw_scale (gi (paA L d n t t) (3465 * (d * E))) (paX L E d n t t) (paY L E d n t t) (by have := hr.g1; omega) hY
  have f1 : gi (paA L d n t t) (3465 * (d * E)) * paX L E d n t t = paA L d n t t := hr.n1.symm
  have f2 : gi (paA L d n t t) (3465 * (d * E)) * paY L E d n t t = 3465 * (d * E) := hr.d1.symm
  rw [f1, f2] at hs
  exact ⟨hs.1.symm, hs.2.1.symm, hs.2.2.symm⟩
theorem pl01 : plB 0 1 = true := by decide
set_option maxHeartbeats 1600000 in
theorem far_spec (L E n d : Int) (bn : -9223372036854775808 ≤ n ∧ n ≤ 9223372036854775807) (bd : -9223372036854775808 ≤ d ∧ d ≤ 9223372036854775807) (w : World) :
    Calls Try.prog 29 #[.agg #[.int .i64 L, .int .i64 E], .agg #[.int .i64 n, .int .i64 d]] w fun e w' => e = .returned (.tuple #[.agg #[.int .i64 (twoN (wayWithK L E n d 0 1) (wayWithX L E n d 0 1) (wayWithM L E n d 0 1)), .int .i64 (twoD (wayWithK L E n d 0 1) (wayWithX L E n d 0 1) (wayWithM L E n d 0 1))], .bool (twoB (wayWithK L E n d 0 1) (wayWithX L E n d 0 1) (wayWithM L E n d 0 1))]) ∧ Below w.heap.size w w' := by
  have HA := Lib.hid (fun W => ask_spec L E n d bn bd W)
  cases h1 : askB L E n d
  · obtain ⟨e1, e2, e3⟩ := no_low (wayWithK L E n d 0 1) (wayWithX L E n d 0 1) (wayWithM L E n d 0 1) (by simp [wayWithK, h1])
    rw [e1, e2, e3]
    rw [h1] at HA
    clear e1 e2 e3 h1
    go_enter Try.func29, Try.ntmps29
    (go_wp2_with fail; refine (HA.out _).mono ?_; rintro e w1 ⟨rfl, hb1⟩; have ha1 := hb1; obtain ⟨kc1, kf1, kz1, ky1, kx1, kv1, ku1⟩ := bcell hb1)
    go_wp2
    refine bodyPost_ret (v := .tuple #[.agg #[.int .i64 0, .int .i64 0], .bool false]) (by simp only [results, Try.results29]; go_simp) rfl ⟨rfl, ?_⟩
    (repeat (first | with_reducible exact Below.refl _ _ | with_reducible assumption | with_reducible refine balloc ?_ _ | with_reducible refine bdrew ?_ | with_reducible refine below_drewN ?_ _ | with_reducible refine bset ?_ ?_ _ | with_reducible exact Nat.le_refl _ | with_reducible refine bsize ?_ | (dsimp only; refine Nat.le_trans ?_ (Nat.le_add_right _ _)) | with_reducible refine Nat.le_trans ?_ (Nat.le_add_right _ _) | (with_reducible refine bstep ?_ (by assumption))))
  · obtain ⟨i1, i2, i3, i4⟩ := askB_yes L E n d h1
    obtain ⟨j1, j2, j3, j4⟩ := camB_yes L E i1
    obtain ⟨x1, x2, x3, x4⟩ := am_of n d i2
    have H := cam_in L E d n j1 j2 j3 j4 x3 i3 x1 i4
    have hk : wayWithK L E n d 0 1 = true := by
      have hl := H.ld
      unfold wayWithK
      rw [h1, pl01, Int.mul_zero, Int.mul_one]
      simp; omega
    rw [hk, (two_yes _ _).1, (two_yes _ _).2.1, (two_yes _ _).2.2]
    have HPt := Lib.hid (fun W => parts_lies L E n d _ H rfl W)
    have bF := pa_bd H _ (Nat.le_refl _)
    have hl := far_low H
    have HM := Lib.hid (fun W => made_spec (paX L E d n (trp (L * d) n) (trp (L * d) n)) (paY L E d n (trp (L * d) n) (trp (L * d) n)) bF.2.2.1 (by omega) (by omega) W)
    rw [hl.1, hl.2.1, hl.2.2] at HM
    rw [h1] at HA
    generalize wayWithX L E n d 0 1 = X at *
    generalize wayWithM L E n d 0 1 = M at *
    clear hl bF H hk h1 i1 i2
    generalize paX L E d n (trp (L * d) n) (trp (L * d) n) = fx at *
    generalize paY L E d n (trp (L * d) n) (trp (L * d) n) = fy at *
    generalize trp (L * d) n = t at *
    go_enter Try.func29, Try.ntmps29
    (go_wp2_with fail; refine (HA.out _).mono ?_; rintro e w1 ⟨rfl, hb1⟩; have ha1 := hb1; obtain ⟨kc1, kf1, kz1, ky1, kx1, kv1, ku1⟩ := bcell hb1)
    have r1 : w1.cell? ⟨w.heap.size + 1 + 1, 0, none⟩ = some (.int .i64 0) := (by rw [kc1 (w.heap.size + 1 + 1) _ (by first | (simp; done) | (simp; omega))]; first | (simp; done) | (simp [go_sem]; done)); have r2 : w1.cell? ⟨w.heap.size + 1 + 1, 1, none⟩ = some (.int .i64 0) := (by rw [kc1 (w.heap.size + 1 + 1) _ (by first | (simp; done) | (simp; omega))]; first | (simp; done) | (simp [go_sem]; done)); have r3 : w1.frozen? ⟨w.heap.size + 1 + 1, 0, none⟩ = false := (by rw [kf1 (w.heap.size + 1 + 1) _ (by first | (simp; done) | (simp; omega))]; first | (simp; done) | (simp [go_sem]; done)); have r4 : w1.frozen? ⟨w.heap.size + 1 + 1, 1, none⟩ = false := (by rw [kf1 (w.heap.size + 1 + 1) _ (by first | (simp; done) | (simp; omega))]; first | (simp; done) | (simp [go_sem]; done)); have rz : w.heap.size + 1 + 1 < w1.heap.size := kz1 (w.heap.size + 1 + 1) (by first | (simp; done) | (simp; omega))
    go_wp2_with fail
    refine (HPt.out _).mono ?_
    rintro e w2 ⟨ga, cap, rfl, hL, hg, hg2, hb2⟩
    have hbw : Below w.heap.size w w2 := bstep (by (repeat (first | with_reducible exact Below.refl _ _ | with_reducible assumption | with_reducible refine balloc ?_ _ | with_reducible refine bdrew ?_ | with_reducible refine below_drewN ?_ _ | with_reducible refine bset ?_ ?_ _ | with_reducible exact Nat.le_refl _ | with_reducible refine bsize ?_ | (dsimp only; refine Nat.le_trans ?_ (Nat.le_add_right _ _)) | with_reducible refine Nat.le_trans ?_ (Nat.le_add_right _ _) | (with_reducible refine bstep ?_ (by assumption))))) hb2
    (have rb : Below w1.heap.size w1 w2 := bstep (by (repeat (first | with_reducible exact Below.refl _ _ | with_reducible assumption | with_reducible refine balloc ?_ _ | with_reducible refine bdrew ?_ | with_reducible refine below_drewN ?_ _ | with_reducible refine bset ?_ ?_ _ | with_reducible exact Nat.le_refl _ | with_reducible refine bsize ?_ | (dsimp only; refine Nat.le_trans ?_ (Nat.le_add_right _ _)) | with_reducible refine Nat.le_trans ?_ (Nat.le_add_right _ _) | (with_reducible refine bstep ?_ (by assumption))))) hb2); replace r1 := keepa rb rz r1; replace r2 := keepa rb rz r2; replace r3 := keepz rb rz r3; replace r4 := keepz rb rz r4; replace rz := Nat.lt_of_lt_of_le rz rb.size; clear rb
    clear hL hg hg2 hb2
    (go_wp2_with fail; refine (HM.out _).mono ?_; rintro e w3 ⟨rfl, hb3⟩; (have ha3 : Below w.heap.size w w3 := by (repeat (first | with_reducible exact Below.refl _ _ | with_reducible assumption | with_reducible refine balloc ?_ _ | with_reducible refine bdrew ?_ | with_reducible refine below_drewN ?_ _ | with_reducible refine bset ?_ ?_ _ | with_reducible exact Nat.le_refl _ | with_reducible refine bsize ?_ | (dsimp only; refine Nat.le_trans ?_ (Nat.le_add_right _ _)) | with_reducible refine Nat.le_trans ?_ (Nat.le_add_right _ _) | (with_reducible refine bstep ?_ (by assumption))))); obtain ⟨kc3, kf3, kz3, ky3, kx3, kv3, ku3⟩ := bcell hb3)
    (have rb : Below w2.heap.size w2 w3 := bstep (by (repeat (first | with_reducible exact Below.refl _ _ | with_reducible assumption | with_reducible refine balloc ?_ _ | with_reducible refine bdrew ?_ | with_reducible refine below_drewN ?_ _ | with_reducible refine bset ?_ ?_ _ | with_reducible exact Nat.le_refl _ | with_reducible refine bsize ?_ | (dsimp only; refine Nat.le_trans ?_ (Nat.le_add_right _ _)) | with_reducible refine Nat.le_trans ?_ (Nat.le_add_right _ _) | (with_reducible refine bstep ?_ (by assumption))))) hb3); replace r1 := keepa rb rz r1; replace r2 := keepa rb rz r2; replace r3 := keepz rb rz r3; replace r4 := keepz rb rz r4; replace rz := Nat.lt_of_lt_of_le rz rb.size; clear rb
    go_wp2
    refine bodyPost_ret (v := .tuple #[.agg #[.int .i64 (lowN (X) (M)), .int .i64 (lowD (X) (M))], .bool (lowB (X) (M))]) (by simp only [results, Try.results29]; go_simp) rfl ⟨rfl, ?_⟩
    (repeat (first | with_reducible exact Below.refl _ _ | with_reducible assumption | with_reducible refine balloc ?_ _ | with_reducible refine bdrew ?_ | with_reducible refine below_drewN ?_ _ | with_reducible refine bset ?_ ?_ _ | with_reducible exact Nat.le_refl _ | with_reducible refine bsize ?_ | (dsimp only; refine Nat.le_trans ?_ (Nat.le_add_right _ _)) | with_reducible refine Nat.le_trans ?_ (Nat.le_add_right _ _) | (with_reducible refine bstep ?_ (by assumption))))
/-- The boxes of a camel and of goods, and the result's block. -/
structure Bx (w W : World) (L E n d : Int) : Prop where
  c1 : W.cell? ⟨w.heap.size, 0, none⟩ = some (.int .i64 L)
  c2 : W.cell? ⟨w.heap.size, 1, none⟩ = some (.int .i64 E)
  c3 : W.cell? ⟨w.heap.size + 1, 0, none⟩ = some (.int .i64 n)
  c4 : W.cell? ⟨w.heap.size + 1, 1, none⟩ = some (.int .i64 d)
  res : HasRes (w.heap.size + 1 + 1) W
  hs : w.heap.size + 1 + 1 < W.heap.size
  bel : Below w.heap.size w W
theorem Bx.later {w W W' : World} {L E n d : Int} (H : Bx w W L E n d) (hb : Below W.heap.size W W') : Bx w W' L E n d := by
  have hs := H.hs
  exact ⟨keepa hb (by omega) H.c1, keepa hb (by omega) H.c2, keepa hb (by omega) H.c3, keepa hb (by omega) H.c4, H.res.later hb, Nat.lt_of_lt_of_le hs hb.size, bstep H.bel hb⟩
theorem Bx.drew {w W : World} {L E n d : Int} (H : Bx w W L E n d) : Bx w W.drew L E n d := H.later (bdrew (Below.refl _ _))
theorem Bx.set {w W : World} {L E n d : Int} (H : Bx w W L E n d) (u v : Value) : Bx w ((W.setCell ⟨w.heap.size + 1 + 1, 0, none⟩ u).setCell ⟨w.heap.size + 1 + 1, 1, none⟩ v) L E n d := by
  obtain ⟨c1, c2, c3, c4, hr, hs, bel⟩ := H
  exact ⟨by simp [go_sem, c1], by simp [go_sem, c2], by simp [go_sem, c3], by simp [go_sem, c4], (hr.set 0 _ (by omega)).set 1 _ (by omega), by simpa using hs, bset (bset bel (by simp; omega) _) (by simp; omega) _⟩
theorem whole_b (k : Int) (w : World) :
    Calls Try.prog 66 #[.int .i64 k] w fun e w' => e = .returned (.agg #[.int .i64 k, .int .i64 1]) ∧ Below w.heap.size w w' := by
  go_enter Try.func66, Try.ntmps66
  go_wp2
  exact bodyPost_ret (v := .agg #[.int .i64 k, .int .i64 1]) (by simp [results, Try.results66, go_sem]) rfl ⟨rfl, by (repeat (first | with_reducible exact Below.refl _ _ | with_reducible assumption | with_reducible refine balloc ?_ _ | with_reducible refine bdrew ?_ | with_reducible refine below_drewN ?_ _ | with_reducible refine bset ?_ ?_ _ | with_reducible exact Nat.le_refl _ | with_reducible refine bsize ?_ | (dsimp only; refine Nat.le_trans ?_ (Nat.le_add_right _ _)) | with_reducible refine Nat.le_trans ?_ (Nat.le_add_right _ _) | (with_reducible refine bstep ?_ (by assumption))))⟩
set_option maxHeartbeats 1600000 in
theorem far_impl (L E n d : Int) (bn : -9223372036854775808 ≤ n ∧ n ≤ 9223372036854775807) (bd : -9223372036854775808 ≤ d ∧ d ≤ 9223372036854775807) (w : World) :
    Calls Try.prog 30 #[.agg #[.int .i64 L, .int .i64 E], .agg #[.int .i64 n, .int .i64 d]] w fun e w' => e = .returned (.tuple #[.agg #[.int .i64 (twoN (wayWithK L E n d 0 1) (wayWithX L E n d 0 1) (wayWithM L E n d 0 1)), .int .i64 (twoD (wayWithK L E n d 0 1) (wayWithX L E n d 0 1) (wayWithM L E n d 0 1))], .bool (twoB (wayWithK L E n d 0 1) (wayWithX L E n d 0 1) (wayWithM L E n d 0 1))]) ∧ Below w.heap.size w w' := by
  have HW := Lib.hid (fun W => wayWith_pub L E n d 0 1 bn bd (by omega) (by omega) W)
  generalize twoN (wayWithK L E n d 0 1) (wayWithX L E n d 0 1) (wayWithM L E n d 0 1) = X at *
  generalize twoD (wayWithK L E n d 0 1) (wayWithX L E n d 0 1) (wayWithM L E n d 0 1) = Y at *
  generalize twoB (wayWithK L E n d 0 1) (wayWithX L E n d 0 1) (wayWithM L E n d 0 1) = B at *
  go_enter Try.func30, Try.ntmps30
  go_upto_region 1 with fail
  change Code.wp _ _ _ _ (((w.alloc (.cells #[.int .i64 L, .int .i64 E] 25)).alloc (.cells #[.int .i64 n, .int .i64 d] 32)).alloc (.cells #[.int .i64 0, .int .i64 0] 32))
  have hB : Bx w (((w.alloc (.cells #[.int .i64 L, .int .i64 E] 25)).alloc (.cells #[.int .i64 n, .int .i64 d] 32)).alloc (.cells #[.int .i64 0, .int .i64 0] 32)) L E n d :=
    ⟨by simp [go_sem], by simp [go_sem], by simp [go_sem], by simp [go_sem], ⟨.int .i64 0, .int .i64 0, by simp [go_sem], by simp [go_sem], by simp [go_sem], by simp [go_sem], by simp⟩, by simp, by (repeat (first | with_reducible exact Below.refl _ _ | with_reducible assumption | with_reducible refine balloc ?_ _ | with_reducible refine bdrew ?_ | with_reducible refine below_drewN ?_ _ | with_reducible refine bset ?_ ?_ _ | with_reducible exact Nat.le_refl _ | with_reducible refine bsize ?_ | (dsimp only; refine Nat.le_trans ?_ (Nat.le_add_right _ _)) | with_reducible refine Nat.le_trans ?_ (Nat.le_add_right _ _) | (with_reducible refine bstep ?_ (by assumption))))⟩
  generalize (((w.alloc (.cells #[.int .i64 L, .int .i64 E] 25)).alloc (.cells #[.int .i64 n, .int .i64 d] 32)).alloc (.cells #[.int .i64 0, .int .i64 0] 32)) = V at *
  have hS := Lib.hid (fun (W : World) (h : Bx w W L E n d) => (⟨h.c1, h.c2, h.c3, h.c4⟩ : W.cell? ⟨w.heap.size, 0, none⟩ = some (.int .i64 L) ∧ W.cell? ⟨w.heap.size, 1, none⟩ = some (.int .i64 E) ∧ W.cell? ⟨w.heap.size + 1, 0, none⟩ = some (.int .i64 n) ∧ W.cell? ⟨w.heap.size + 1, 1, none⟩ = some (.int .i64 d)))
  go_region_held3 (fun W => W.cell? ⟨w.heap.size, 0, none⟩ = some (.int .i64 L) ∧ W.cell? ⟨w.heap.size, 1, none⟩ = some (.int .i64 E) ∧ W.cell? ⟨w.heap.size + 1, 0, none⟩ = some (.int .i64 n) ∧ W.cell? ⟨w.heap.size + 1, 1, none⟩ = some (.int .i64 d))
    ((refine hS.out _ ?_; first | with_reducible assumption | with_reducible exact Bx.drew (by with_reducible assumption) | with_reducible exact Bx.set (by with_reducible assumption) _ _ | with_reducible exact Bx.drew (Bx.set (by with_reducible assumption) _ _)))
    (first | (go_at_call 66; refine (whole_b _ _).mono ?_; rintro e w3 ⟨rfl, hb3⟩; (have hB3 := Bx.later hB (bstep (by (repeat (first | with_reducible exact Below.refl _ _ | with_reducible assumption | with_reducible refine balloc ?_ _ | with_reducible refine bdrew ?_ | with_reducible refine below_drewN ?_ _ | with_reducible refine bset ?_ ?_ _ | with_reducible exact Nat.le_refl _ | with_reducible refine bsize ?_ | (dsimp only; refine Nat.le_trans ?_ (Nat.le_add_right _ _)) | with_reducible refine Nat.le_trans ?_ (Nat.le_add_right _ _) | (with_reducible refine bstep ?_ (by assumption))))) hb3))) | (go_at_call 57; refine (HW.out _).mono ?_; rintro e w4 ⟨rfl, hb4⟩; (have hB4 := Bx.later hB3 (bstep (by (repeat (first | with_reducible exact Below.refl _ _ | with_reducible assumption | with_reducible refine balloc ?_ _ | with_reducible refine bdrew ?_ | with_reducible refine below_drewN ?_ _ | with_reducible refine bset ?_ ?_ _ | with_reducible exact Nat.le_refl _ | with_reducible refine bsize ?_ | (dsimp only; refine Nat.le_trans ?_ (Nat.le_add_right _ _)) | with_reducible refine Nat.le_trans ?_ (Nat.le_add_right _ _) | (with_reducible refine bstep ?_ (by assumption))))) hb4)); (obtain ⟨rx, ry, y1, y2, y3, y4, y5⟩ := hB4.res)))
  all_goals go_wp2
  all_goals refine bodyPost_ret (v := .tuple #[.agg #[.int .i64 X, .int .i64 Y], .bool B]) (by simp only [results, Try.results30]; go_simp) rfl ⟨rfl, ?_⟩
  all_goals exact (Bx.set hB4 _ _).bel
end Go.Proofs.Ytkignanlkakdpaa
