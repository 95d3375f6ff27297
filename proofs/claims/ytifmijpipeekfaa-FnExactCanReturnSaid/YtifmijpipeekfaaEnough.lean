/- Is fuel enough for a way? Contracts on both sides. -/
import Derived.Test.YtifmijpipeekfaaLawBase
import Derived.Test.YtifmijpipeekfaaJeepS2
namespace Go.Proofs.Ytifmijpipeekfaa
open Go.ChangeShapes Go.WideShapes Go.ChangeAt Go.RowKit Go.Joins
set_option maxRecDepth 100000
set_option linter.unusedVariables false
set_option linter.unusedSimpArgs false

def ceB (j n d p q : Int) : Bool := fwB j n d && amB p q
def ceV (j n d p q : Int) : Bool := ceB j n d p q && decide (0 ≤ sgI (fwX j n d * q - p * fwY j n d))
theorem fw_am (j n d : Int) (h : fwB j n d = true) : amB (fwX j n d) (fwY j n d) = true := by
  have hb : lowB (fwN j n d) (fwD j n d) = true := by unfold fwB at h; rw [Bool.and_eq_true] at h; exact h.2
  unfold fwX fwY; rw [if_pos h, if_pos h]; exact amB_low _ _ hb
theorem fw_zero (j n d : Int) (h : fwB j n d = false) : fwX j n d = 0 ∧ fwY j n d = 0 := by simp [fwX, fwY, h]
theorem am_zero : amB 0 0 = false := by decide +kernel

set_option maxHeartbeats 1600000 in
theorem enough_impl (j n d : Int) (hj : OkJ j) (bn : -9223372036854775808 ≤ n ∧ n ≤ 9223372036854775807) (bd : -9223372036854775808 ≤ d ∧ d ≤ 9223372036854775807) (p q : Int) (bp : -9223372036854775808 ≤ p ∧ p ≤ 9223372036854775807) (bq : -9223372036854775808 ≤ q ∧ q ≤ 9223372036854775807) (w : World) :
    Calls Try.prog 88 #[.int .i64 j, .agg #[.int .i64 n, .int .i64 d], .agg #[.int .i64 p, .int .i64 q]] w fun e w' => e = .returned (.tuple #[.bool (ceV j n d p q), .bool (ceB j n d p q)]) ∧ Below w.heap.size w w' := by
  have hfw := fun W => fw_impl j n d hj bn bd W
  cases h : fwB j n d
  · have e1 : ceB j n d p q = false := by simp [ceB, h]
    have e2 : ceV j n d p q = false := by simp [ceV, e1]
    rw [e1, e2]; clear e1 e2
    rw [h, (fw_zero j n d h).1, (fw_zero j n d h).2] at hfw
    have hk : okk 0 0 p q = false := by simp [okk, am_zero]
    have hcm := fun W => compare_impl 0 0 p q (by omega) (by omega) bp bq W
    rw [hk] at hcm
    have HF := Lib.hid hfw
    have HC := Lib.hid hcm
    clear hfw hcm hk h
    go_enter Try.func88, Try.ntmps88
    (go_wp2_with fail; refine (HF.out _).mono ?_; rintro e w1 ⟨rfl, hb1⟩; have ha1 := hb1; obtain ⟨kc1, kf1, kz1, ky1, kx1, kv1, ku1⟩ := bcell hb1)
    (go_wp2_with fail; refine (HC.out _).mono ?_; rintro e w2 ⟨rfl, hb2⟩; have ha2 := bjoin ha1 hb2 (by (repeat (first | with_reducible exact Below.refl _ _ | with_reducible assumption | with_reducible refine balloc ?_ _ | with_reducible refine bdrew ?_ | with_reducible refine below_drewN ?_ _ | with_reducible refine bset ?_ ?_ _ | with_reducible exact Nat.le_refl _ | with_reducible refine bsize ?_ | (dsimp only; refine Nat.le_trans ?_ (Nat.le_add_right _ _)) | with_reducible refine Nat.le_trans ?_ (Nat.le_add_right _ _) | (with_reducible refine bstep ?_ (by assumption))))); obtain ⟨kc2, kf2, kz2, ky2, kx2, kv2, ku2⟩ := bcell hb2; obtain ⟨jc2, jf2, jz2, jy2, jx2, jv2, ju2⟩ := bcell ha2)
    go_wp2
    go_ret2
    refine ⟨rfl, ?_⟩
    (repeat (first | with_reducible exact Below.refl _ _ | with_reducible assumption | with_reducible refine balloc ?_ _ | with_reducible refine bdrew ?_ | with_reducible refine below_drewN ?_ _ | with_reducible refine bset ?_ ?_ _ | with_reducible exact Nat.le_refl _ | with_reducible refine bsize ?_ | (dsimp only; refine Nat.le_trans ?_ (Nat.le_add_right _ _)) | with_reducible refine Nat.le_trans ?_ (Nat.le_add_right _ _) | (with_reducible refine bstep ?_ (by assumption))))
  · have ham := fw_am j n d h
    obtain ⟨f1, f2, f3, f4⟩ := am_of _ _ ham
    rw [h] at hfw
    have hcm := fun W => compare_impl (fwX j n d) (fwY j n d) p q (by omega) (by omega) bp bq W
    have hok : okk (fwX j n d) (fwY j n d) p q = amB p q := by simp [okk, ham]
    have hci : cmI (fwX j n d) (fwY j n d) p q = if amB p q = true then sgI (fwX j n d * q - p * fwY j n d) else 0 := by unfold cmI; rw [hok]
    rw [hok, hci] at hcm
    cases h2 : amB p q
    · have e1 : ceB j n d p q = false := by simp [ceB, h2]
      have e2 : ceV j n d p q = false := by simp [ceV, e1]
      rw [e1, e2]; clear e1 e2
      rw [h2] at hcm
      simp only [Bool.false_eq_true, if_false] at hcm
      generalize fwX j n d = X at *
      generalize fwY j n d = Y at *
      have HF := Lib.hid hfw
      have HC := Lib.hid hcm
      clear hfw hcm hok hci ham h h2
      go_enter Try.func88, Try.ntmps88
      (go_wp2_with fail; refine (HF.out _).mono ?_; rintro e w1 ⟨rfl, hb1⟩; have ha1 := hb1; obtain ⟨kc1, kf1, kz1, ky1, kx1, kv1, ku1⟩ := bcell hb1)
      (go_wp2_with fail; refine (HC.out _).mono ?_; rintro e w2 ⟨rfl, hb2⟩; have ha2 := bjoin ha1 hb2 (by (repeat (first | with_reducible exact Below.refl _ _ | with_reducible assumption | with_reducible refine balloc ?_ _ | with_reducible refine bdrew ?_ | with_reducible refine below_drewN ?_ _ | with_reducible refine bset ?_ ?_ _ | with_reducible exact Nat.le_refl _ | with_reducible refine bsize ?_ | (dsimp only; refine Nat.le_trans ?_ (Nat.le_add_right _ _)) | with_reducible refine Nat.le_trans ?_ (Nat.le_add_right _ _) | (with_reducible refine bstep ?_ (by assumption))))); obtain ⟨kc2, kf2, kz2, ky2, kx2, kv2, ku2⟩ := bcell hb2; obtain ⟨jc2, jf2, jz2, jy2, jx2, jv2, ju2⟩ := bcell ha2)
      go_wp2
      go_ret2
      refine ⟨rfl, ?_⟩
      (repeat (first | with_reducible exact Below.refl _ _ | with_reducible assumption | with_reducible refine balloc ?_ _ | with_reducible refine bdrew ?_ | with_reducible refine below_drewN ?_ _ | with_reducible refine bset ?_ ?_ _ | with_reducible exact Nat.le_refl _ | with_reducible refine bsize ?_ | (dsimp only; refine Nat.le_trans ?_ (Nat.le_add_right _ _)) | with_reducible refine Nat.le_trans ?_ (Nat.le_add_right _ _) | (with_reducible refine bstep ?_ (by assumption))))
    · have e1 : ceB j n d p q = true := by simp [ceB, h2, h]
      have e2 : ceV j n d p q = decide (0 ≤ sgI (fwX j n d * q - p * fwY j n d)) := by simp [ceV, e1]
      rw [e1, e2]; clear e1 e2
      rw [h2] at hcm
      simp only [if_true] at hcm
      generalize sgI (fwX j n d * q - p * fwY j n d) = S at *
      generalize fwX j n d = X at *
      generalize fwY j n d = Y at *
      have HF := Lib.hid hfw
      have HC := Lib.hid hcm
      clear hfw hcm hok hci ham h h2
      go_enter Try.func88, Try.ntmps88
      (go_wp2_with fail; refine (HF.out _).mono ?_; rintro e w1 ⟨rfl, hb1⟩; have ha1 := hb1; obtain ⟨kc1, kf1, kz1, ky1, kx1, kv1, ku1⟩ := bcell hb1)
      (go_wp2_with fail; refine (HC.out _).mono ?_; rintro e w2 ⟨rfl, hb2⟩; have ha2 := bjoin ha1 hb2 (by (repeat (first | with_reducible exact Below.refl _ _ | with_reducible assumption | with_reducible refine balloc ?_ _ | with_reducible refine bdrew ?_ | with_reducible refine below_drewN ?_ _ | with_reducible refine bset ?_ ?_ _ | with_reducible exact Nat.le_refl _ | with_reducible refine bsize ?_ | (dsimp only; refine Nat.le_trans ?_ (Nat.le_add_right _ _)) | with_reducible refine Nat.le_trans ?_ (Nat.le_add_right _ _) | (with_reducible refine bstep ?_ (by assumption))))); obtain ⟨kc2, kf2, kz2, ky2, kx2, kv2, ku2⟩ := bcell hb2; obtain ⟨jc2, jf2, jz2, jy2, jx2, jv2, ju2⟩ := bcell ha2)
      go_wp2
      go_ret2
      refine ⟨rfl, ?_⟩
      (repeat (first | with_reducible exact Below.refl _ _ | with_reducible assumption | with_reducible refine balloc ?_ _ | with_reducible refine bdrew ?_ | with_reducible refine below_drewN ?_ _ | with_reducible refine bset ?_ ?_ _ | with_reducible exact Nat.le_refl _ | with_reducible refine bsize ?_ | (dsimp only; refine Nat.le_trans ?_ (Nat.le_add_right _ _)) | with_reducible refine Nat.le_trans ?_ (Nat.le_add_right _ _) | (with_reducible refine bstep ?_ (by assumption))))

set_option maxHeartbeats 1600000 in
theorem enough_spec_out (n d : Int) (bn : -9223372036854775808 ≤ n ∧ n ≤ 9223372036854775807) (bd : -9223372036854775808 ≤ d ∧ d ≤ 9223372036854775807) (p q : Int) (bp : -9223372036854775808 ≤ p ∧ p ≤ 9223372036854775807) (bq : -9223372036854775808 ≤ q ∧ q ≤ 9223372036854775807) (w : World) :
    Calls Try.prog 87 #[.agg #[.int .i64 n, .int .i64 d], .agg #[.int .i64 p, .int .i64 q], .bool false] w fun e w' => e = .returned (.tuple #[.bool (ceV 1 n d p q), .bool (ceB 1 n d p q)]) ∧ Below w.heap.size w w' := by
  cases h : tkB n d 10
  · have e0 : fwB 1 n d = false := by simp [fwB, h]
    have e1 : ceB 1 n d p q = false := by simp [ceB, e0]
    have e2 : ceV 1 n d p q = false := by simp [ceV, e1]
    rw [e1, e2]; clear e0 e1 e2
    go_enter Try.func87, Try.ntmps87
    (go_wp2_with fail; refine (jeFuel_spec n d _).mono ?_; rintro e w1 ⟨rfl, hb1⟩; rw [h]; have ha1 := hb1; obtain ⟨kc1, kf1, kz1, ky1, kx1, kv1, ku1⟩ := bcell hb1)
    go_wp2
    go_ret2
    refine ⟨rfl, ?_⟩
    (repeat (first | with_reducible exact Below.refl _ _ | with_reducible assumption | with_reducible refine balloc ?_ _ | with_reducible refine bdrew ?_ | with_reducible refine below_drewN ?_ _ | with_reducible refine bset ?_ ?_ _ | with_reducible exact Nat.le_refl _ | with_reducible refine bsize ?_ | (dsimp only; refine Nat.le_trans ?_ (Nat.le_add_right _ _)) | with_reducible refine Nat.le_trans ?_ (Nat.le_add_right _ _) | (with_reducible refine bstep ?_ (by assumption))))
  · cases h2 : amB p q
    · have e1 : ceB 1 n d p q = false := by simp [ceB, h2]
      have e2 : ceV 1 n d p q = false := by simp [ceV, e1]
      rw [e1, e2]; clear e1 e2
      go_enter Try.func87, Try.ntmps87
      (go_wp2_with fail; refine (jeFuel_spec n d _).mono ?_; rintro e w1 ⟨rfl, hb1⟩; rw [h]; have ha1 := hb1; obtain ⟨kc1, kf1, kz1, ky1, kx1, kv1, ku1⟩ := bcell hb1)
      (go_wp2_with fail; refine (good_spec _ _ _).mono ?_; rintro e w2 ⟨rfl, hb2⟩; rw [h2]; have ha2 := bjoin ha1 hb2 (by (repeat (first | with_reducible exact Below.refl _ _ | with_reducible assumption | with_reducible refine balloc ?_ _ | with_reducible refine bdrew ?_ | with_reducible refine below_drewN ?_ _ | with_reducible refine bset ?_ ?_ _ | with_reducible exact Nat.le_refl _ | with_reducible refine bsize ?_ | (dsimp only; refine Nat.le_trans ?_ (Nat.le_add_right _ _)) | with_reducible refine Nat.le_trans ?_ (Nat.le_add_right _ _) | (with_reducible refine bstep ?_ (by assumption))))); obtain ⟨kc2, kf2, kz2, ky2, kx2, kv2, ku2⟩ := bcell hb2; obtain ⟨jc2, jf2, jz2, jy2, jx2, jv2, ju2⟩ := bcell ha2)
      go_wp2
      go_ret2
      refine ⟨rfl, ?_⟩
      (repeat (first | with_reducible exact Below.refl _ _ | with_reducible assumption | with_reducible refine balloc ?_ _ | with_reducible refine bdrew ?_ | with_reducible refine below_drewN ?_ _ | with_reducible refine bset ?_ ?_ _ | with_reducible exact Nat.le_refl _ | with_reducible refine bsize ?_ | (dsimp only; refine Nat.le_trans ?_ (Nat.le_add_right _ _)) | with_reducible refine Nat.le_trans ?_ (Nat.le_add_right _ _) | (with_reducible refine bstep ?_ (by assumption))))
    · have hB : fwB 1 n d = lowB (fwN 1 n d) (fwD 1 n d) := by simp [fwB, h]
      obtain ⟨h1, hle⟩ := tkB_yes n d 10 h
      obtain ⟨a1, a2, a3, a4⟩ := am_of n d h1
      have hfar := fun W => far_out n d h1 (by omega) W
      cases hl : lowB (fwN 1 n d) (fwD 1 n d)
      · rw [hl] at hB
        have e1 : ceB 1 n d p q = false := by simp [ceB, hB]
        have e2 : ceV 1 n d p q = false := by simp [ceV, e1]
        rw [e1, e2]; clear e1 e2
        rw [hl] at hfar
        generalize lowN (fwN 1 n d) (fwD 1 n d) = X at *
        generalize lowD (fwN 1 n d) (fwD 1 n d) = Y at *
        have HF := Lib.hid hfar
        clear hfar hl hB h1 hle
        go_enter Try.func87, Try.ntmps87
        (go_wp2_with fail; refine (jeFuel_spec n d _).mono ?_; rintro e w1 ⟨rfl, hb1⟩; rw [h]; have ha1 := hb1; obtain ⟨kc1, kf1, kz1, ky1, kx1, kv1, ku1⟩ := bcell hb1)
        (go_wp2_with fail; refine (good_spec _ _ _).mono ?_; rintro e w2 ⟨rfl, hb2⟩; rw [h2]; have ha2 := bjoin ha1 hb2 (by (repeat (first | with_reducible exact Below.refl _ _ | with_reducible assumption | with_reducible refine balloc ?_ _ | with_reducible refine bdrew ?_ | with_reducible refine below_drewN ?_ _ | with_reducible refine bset ?_ ?_ _ | with_reducible exact Nat.le_refl _ | with_reducible refine bsize ?_ | (dsimp only; refine Nat.le_trans ?_ (Nat.le_add_right _ _)) | with_reducible refine Nat.le_trans ?_ (Nat.le_add_right _ _) | (with_reducible refine bstep ?_ (by assumption))))); obtain ⟨kc2, kf2, kz2, ky2, kx2, kv2, ku2⟩ := bcell hb2; obtain ⟨jc2, jf2, jz2, jy2, jx2, jv2, ju2⟩ := bcell ha2)
        (go_wp2_with fail; refine (HF.out _).mono ?_; rintro e w3 ⟨rfl, hb3⟩; have ha3 := bjoin ha2 hb3 (by (repeat (first | with_reducible exact Below.refl _ _ | with_reducible assumption | with_reducible refine balloc ?_ _ | with_reducible refine bdrew ?_ | with_reducible refine below_drewN ?_ _ | with_reducible refine bset ?_ ?_ _ | with_reducible exact Nat.le_refl _ | with_reducible refine bsize ?_ | (dsimp only; refine Nat.le_trans ?_ (Nat.le_add_right _ _)) | with_reducible refine Nat.le_trans ?_ (Nat.le_add_right _ _) | (with_reducible refine bstep ?_ (by assumption))))); obtain ⟨kc3, kf3, kz3, ky3, kx3, kv3, ku3⟩ := bcell hb3; obtain ⟨jc3, jf3, jz3, jy3, jx3, jv3, ju3⟩ := bcell ha3)
        go_wp2
        go_ret2
        refine ⟨rfl, ?_⟩
        (repeat (first | with_reducible exact Below.refl _ _ | with_reducible assumption | with_reducible refine balloc ?_ _ | with_reducible refine bdrew ?_ | with_reducible refine below_drewN ?_ _ | with_reducible refine bset ?_ ?_ _ | with_reducible exact Nat.le_refl _ | with_reducible refine bsize ?_ | (dsimp only; refine Nat.le_trans ?_ (Nat.le_add_right _ _)) | with_reducible refine Nat.le_trans ?_ (Nat.le_add_right _ _) | (with_reducible refine bstep ?_ (by assumption))))
      · rw [hl] at hB
        have ham := fw_am 1 n d hB
        have eX : fwX 1 n d = lowN (fwN 1 n d) (fwD 1 n d) := by simp [fwX, hB]
        have eY : fwY 1 n d = lowD (fwN 1 n d) (fwD 1 n d) := by simp [fwY, hB]
        have e1 : ceB 1 n d p q = true := by simp [ceB, h2, hB]
        have e2 : ceV 1 n d p q = decide (0 ≤ sgI (fwX 1 n d * q - p * fwY 1 n d)) := by simp [ceV, e1]
        rw [e1, e2]; clear e1 e2
        rw [hl, ← eX, ← eY] at hfar
        clear eX eY
        have hcm := fun W => cmp_spec (fwX 1 n d) (fwY 1 n d) p q (am_of _ _ ham) (am_of _ _ h2) W
        generalize sgI (fwX 1 n d * q - p * fwY 1 n d) = S at *
        generalize fwX 1 n d = X at *
        generalize fwY 1 n d = Y at *
        have HF := Lib.hid hfar
        have HC := Lib.hid hcm
        clear hfar hcm hl hB h1 hle ham
        go_enter Try.func87, Try.ntmps87
        (go_wp2_with fail; refine (jeFuel_spec n d _).mono ?_; rintro e w1 ⟨rfl, hb1⟩; rw [h]; have ha1 := hb1; obtain ⟨kc1, kf1, kz1, ky1, kx1, kv1, ku1⟩ := bcell hb1)
        (go_wp2_with fail; refine (good_spec _ _ _).mono ?_; rintro e w2 ⟨rfl, hb2⟩; rw [h2]; have ha2 := bjoin ha1 hb2 (by (repeat (first | with_reducible exact Below.refl _ _ | with_reducible assumption | with_reducible refine balloc ?_ _ | with_reducible refine bdrew ?_ | with_reducible refine below_drewN ?_ _ | with_reducible refine bset ?_ ?_ _ | with_reducible exact Nat.le_refl _ | with_reducible refine bsize ?_ | (dsimp only; refine Nat.le_trans ?_ (Nat.le_add_right _ _)) | with_reducible refine Nat.le_trans ?_ (Nat.le_add_right _ _) | (with_reducible refine bstep ?_ (by assumption))))); obtain ⟨kc2, kf2, kz2, ky2, kx2, kv2, ku2⟩ := bcell hb2; obtain ⟨jc2, jf2, jz2, jy2, jx2, jv2, ju2⟩ := bcell ha2)
        (go_wp2_with fail; refine (HF.out _).mono ?_; rintro e w3 ⟨rfl, hb3⟩; have ha3 := bjoin ha1 hb3 (by (repeat (first | with_reducible exact Below.refl _ _ | with_reducible assumption | with_reducible refine balloc ?_ _ | with_reducible refine bdrew ?_ | with_reducible refine below_drewN ?_ _ | with_reducible refine bset ?_ ?_ _ | with_reducible exact Nat.le_refl _ | with_reducible refine bsize ?_ | (dsimp only; refine Nat.le_trans ?_ (Nat.le_add_right _ _)) | with_reducible refine Nat.le_trans ?_ (Nat.le_add_right _ _) | (with_reducible refine bstep ?_ (by assumption))))); obtain ⟨kc3, kf3, kz3, ky3, kx3, kv3, ku3⟩ := bcell hb3; obtain ⟨jc3, jf3, jz3, jy3, jx3, jv3, ju3⟩ := bcell ha3)
        (go_wp2_with fail; refine (HC.out _).mono ?_; rintro e w4 ⟨rfl, hb4⟩; have ha4 := bjoin ha3 hb4 (by (repeat (first | with_reducible exact Below.refl _ _ | with_reducible assumption | with_reducible refine balloc ?_ _ | with_reducible refine bdrew ?_ | with_reducible refine below_drewN ?_ _ | with_reducible refine bset ?_ ?_ _ | with_reducible exact Nat.le_refl _ | with_reducible refine bsize ?_ | (dsimp only; refine Nat.le_trans ?_ (Nat.le_add_right _ _)) | with_reducible refine Nat.le_trans ?_ (Nat.le_add_right _ _) | (with_reducible refine bstep ?_ (by assumption))))); obtain ⟨kc4, kf4, kz4, ky4, kx4, kv4, ku4⟩ := bcell hb4; obtain ⟨jc4, jf4, jz4, jy4, jx4, jv4, ju4⟩ := bcell ha4)
        go_wp2
        go_ret2
        refine ⟨rfl, ?_⟩
        (repeat (first | with_reducible exact Below.refl _ _ | with_reducible assumption | with_reducible refine balloc ?_ _ | with_reducible refine bdrew ?_ | with_reducible refine below_drewN ?_ _ | with_reducible refine bset ?_ ?_ _ | with_reducible exact Nat.le_refl _ | with_reducible refine bsize ?_ | (dsimp only; refine Nat.le_trans ?_ (Nat.le_add_right _ _)) | with_reducible refine Nat.le_trans ?_ (Nat.le_add_right _ _) | (with_reducible refine bstep ?_ (by assumption))))

set_option maxHeartbeats 1600000 in
theorem enough_spec_back (n d : Int) (bn : -9223372036854775808 ≤ n ∧ n ≤ 9223372036854775807) (bd : -9223372036854775808 ≤ d ∧ d ≤ 9223372036854775807) (p q : Int) (bp : -9223372036854775808 ≤ p ∧ p ≤ 9223372036854775807) (bq : -9223372036854775808 ≤ q ∧ q ≤ 9223372036854775807) (w : World) :
    Calls Try.prog 87 #[.agg #[.int .i64 n, .int .i64 d], .agg #[.int .i64 p, .int .i64 q], .bool true] w fun e w' => e = .returned (.tuple #[.bool (ceV 2 n d p q), .bool (ceB 2 n d p q)]) ∧ Below w.heap.size w w' := by
  cases h : tkB n d 10
  · have e0 : fwB 2 n d = false := by simp [fwB, h]
    have e1 : ceB 2 n d p q = false := by simp [ceB, e0]
    have e2 : ceV 2 n d p q = false := by simp [ceV, e1]
    rw [e1, e2]; clear e0 e1 e2
    go_enter Try.func87, Try.ntmps87
    (go_wp2_with fail; refine (jeFuel_spec n d _).mono ?_; rintro e w1 ⟨rfl, hb1⟩; rw [h]; have ha1 := hb1; obtain ⟨kc1, kf1, kz1, ky1, kx1, kv1, ku1⟩ := bcell hb1)
    go_wp2
    go_ret2
    refine ⟨rfl, ?_⟩
    (repeat (first | with_reducible exact Below.refl _ _ | with_reducible assumption | with_reducible refine balloc ?_ _ | with_reducible refine bdrew ?_ | with_reducible refine below_drewN ?_ _ | with_reducible refine bset ?_ ?_ _ | with_reducible exact Nat.le_refl _ | with_reducible refine bsize ?_ | (dsimp only; refine Nat.le_trans ?_ (Nat.le_add_right _ _)) | with_reducible refine Nat.le_trans ?_ (Nat.le_add_right _ _) | (with_reducible refine bstep ?_ (by assumption))))
  · cases h2 : amB p q
    · have e1 : ceB 2 n d p q = false := by simp [ceB, h2]
      have e2 : ceV 2 n d p q = false := by simp [ceV, e1]
      rw [e1, e2]; clear e1 e2
      go_enter Try.func87, Try.ntmps87
      (go_wp2_with fail; refine (jeFuel_spec n d _).mono ?_; rintro e w1 ⟨rfl, hb1⟩; rw [h]; have ha1 := hb1; obtain ⟨kc1, kf1, kz1, ky1, kx1, kv1, ku1⟩ := bcell hb1)
      (go_wp2_with fail; refine (good_spec _ _ _).mono ?_; rintro e w2 ⟨rfl, hb2⟩; rw [h2]; have ha2 := bjoin ha1 hb2 (by (repeat (first | with_reducible exact Below.refl _ _ | with_reducible assumption | with_reducible refine balloc ?_ _ | with_reducible refine bdrew ?_ | with_reducible refine below_drewN ?_ _ | with_reducible refine bset ?_ ?_ _ | with_reducible exact Nat.le_refl _ | with_reducible refine bsize ?_ | (dsimp only; refine Nat.le_trans ?_ (Nat.le_add_right _ _)) | with_reducible refine Nat.le_trans ?_ (Nat.le_add_right _ _) | (with_reducible refine bstep ?_ (by assumption))))); obtain ⟨kc2, kf2, kz2, ky2, kx2, kv2, ku2⟩ := bcell hb2; obtain ⟨jc2, jf2, jz2, jy2, jx2, jv2, ju2⟩ := bcell ha2)
      go_wp2
      go_ret2
      refine ⟨rfl, ?_⟩
      (repeat (first | with_reducible exact Below.refl _ _ | with_reducible assumption | with_reducible refine balloc ?_ _ | with_reducible refine bdrew ?_ | with_reducible refine below_drewN ?_ _ | with_reducible refine bset ?_ ?_ _ | with_reducible exact Nat.le_refl _ | with_reducible refine bsize ?_ | (dsimp only; refine Nat.le_trans ?_ (Nat.le_add_right _ _)) | with_reducible refine Nat.le_trans ?_ (Nat.le_add_right _ _) | (with_reducible refine bstep ?_ (by assumption))))
    · have hB : fwB 2 n d = lowB (fwN 2 n d) (fwD 2 n d) := by simp [fwB, h]
      obtain ⟨h1, hle⟩ := tkB_yes n d 10 h
      obtain ⟨a1, a2, a3, a4⟩ := am_of n d h1
      have hfar := fun W => far_back n d h1 (by omega) W
      cases hl : lowB (fwN 2 n d) (fwD 2 n d)
      · rw [hl] at hB
        have e1 : ceB 2 n d p q = false := by simp [ceB, hB]
        have e2 : ceV 2 n d p q = false := by simp [ceV, e1]
        rw [e1, e2]; clear e1 e2
        rw [hl] at hfar
        generalize lowN (fwN 2 n d) (fwD 2 n d) = X at *
        generalize lowD (fwN 2 n d) (fwD 2 n d) = Y at *
        have HF := Lib.hid hfar
        clear hfar hl hB h1 hle
        go_enter Try.func87, Try.ntmps87
        (go_wp2_with fail; refine (jeFuel_spec n d _).mono ?_; rintro e w1 ⟨rfl, hb1⟩; rw [h]; have ha1 := hb1; obtain ⟨kc1, kf1, kz1, ky1, kx1, kv1, ku1⟩ := bcell hb1)
        (go_wp2_with fail; refine (good_spec _ _ _).mono ?_; rintro e w2 ⟨rfl, hb2⟩; rw [h2]; have ha2 := bjoin ha1 hb2 (by (repeat (first | with_reducible exact Below.refl _ _ | with_reducible assumption | with_reducible refine balloc ?_ _ | with_reducible refine bdrew ?_ | with_reducible refine below_drewN ?_ _ | with_reducible refine bset ?_ ?_ _ | with_reducible exact Nat.le_refl _ | with_reducible refine bsize ?_ | (dsimp only; refine Nat.le_trans ?_ (Nat.le_add_right _ _)) | with_reducible refine Nat.le_trans ?_ (Nat.le_add_right _ _) | (with_reducible refine bstep ?_ (by assumption))))); obtain ⟨kc2, kf2, kz2, ky2, kx2, kv2, ku2⟩ := bcell hb2; obtain ⟨jc2, jf2, jz2, jy2, jx2, jv2, ju2⟩ := bcell ha2)
        (go_wp2_with fail; refine (HF.out _).mono ?_; rintro e w3 ⟨rfl, hb3⟩; have ha3 := bjoin ha2 hb3 (by (repeat (first | with_reducible exact Below.refl _ _ | with_reducible assumption | with_reducible refine balloc ?_ _ | with_reducible refine bdrew ?_ | with_reducible refine below_drewN ?_ _ | with_reducible refine bset ?_ ?_ _ | with_reducible exact Nat.le_refl _ | with_reducible refine bsize ?_ | (dsimp only; refine Nat.le_trans ?_ (Nat.le_add_right _ _)) | with_reducible refine Nat.le_trans ?_ (Nat.le_add_right _ _) | (with_reducible refine bstep ?_ (by assumption))))); obtain ⟨kc3, kf3, kz3, ky3, kx3, kv3, ku3⟩ := bcell hb3; obtain ⟨jc3, jf3, jz3, jy3, jx3, jv3, ju3⟩ := bcell ha3)
        go_wp2
        go_ret2
        refine ⟨rfl, ?_⟩
        (repeat (first | with_reducible exact Below.refl _ _ | with_reducible assumption | with_reducible refine balloc ?_ _ | with_reducible refine bdrew ?_ | with_reducible refine below_drewN ?_ _ | with_reducible refine bset ?_ ?_ _ | with_reducible exact Nat.le_refl _ | with_reducible refine bsize ?_ | (dsimp only; refine Nat.le_trans ?_ (Nat.le_add_right _ _)) | with_reducible refine Nat.le_trans ?_ (Nat.le_add_right _ _) | (with_reducible refine bstep ?_ (by assumption))))
      · rw [hl] at hB
        have ham := fw_am 2 n d hB
        have eX : fwX 2 n d = lowN (fwN 2 n d) (fwD 2 n d) := by simp [fwX, hB]
        have eY : fwY 2 n d = lowD (fwN 2 n d) (fwD 2 n d) := by simp [fwY, hB]
        have e1 : ceB 2 n d p q = true := by simp [ceB, h2, hB]
        have e2 : ceV 2 n d p q = decide (0 ≤ sgI (fwX 2 n d * q - p * fwY 2 n d)) := by simp [ceV, e1]
        rw [e1, e2]; clear e1 e2
        rw [hl, ← eX, ← eY] at hfar
        clear eX eY
        have hcm := fun W => cmp_spec (fwX 2 n d) (fwY 2 n d) p q (am_of _ _ ham) (am_of _ _ h2) W
        generalize sgI (fwX 2 n d * q - p * fwY 2 n d) = S at *
        generalize fwX 2 n d = X at *
        generalize fwY 2 n d = Y at *
        have HF := Lib.hid hfar
        have HC := Lib.hid hcm
        clear hfar hcm hl hB h1 hle ham
        go_enter Try.func87, Try.ntmps87
        (go_wp2_with fail; refine (jeFuel_spec n d _).mono ?_; rintro e w1 ⟨rfl, hb1⟩; rw [h]; have ha1 := hb1; obtain ⟨kc1, kf1, kz1, ky1, kx1, kv1, ku1⟩ := bcell hb1)
        (go_wp2_with fail; refine (good_spec _ _ _).mono ?_; rintro e w2 ⟨rfl, hb2⟩; rw [h2]; have ha2 := bjoin ha1 hb2 (by (repeat (first | with_reducible exact Below.refl _ _ | with_reducible assumption | with_reducible refine balloc ?_ _ | with_reducible refine bdrew ?_ | with_reducible refine below_drewN ?_ _ | with_reducible refine bset ?_ ?_ _ | with_reducible exact Nat.le_refl _ | with_reducible refine bsize ?_ | (dsimp only; refine Nat.le_trans ?_ (Nat.le_add_right _ _)) | with_reducible refine Nat.le_trans ?_ (Nat.le_add_right _ _) | (with_reducible refine bstep ?_ (by assumption))))); obtain ⟨kc2, kf2, kz2, ky2, kx2, kv2, ku2⟩ := bcell hb2; obtain ⟨jc2, jf2, jz2, jy2, jx2, jv2, ju2⟩ := bcell ha2)
        (go_wp2_with fail; refine (HF.out _).mono ?_; rintro e w3 ⟨rfl, hb3⟩; have ha3 := bjoin ha1 hb3 (by (repeat (first | with_reducible exact Below.refl _ _ | with_reducible assumption | with_reducible refine balloc ?_ _ | with_reducible refine bdrew ?_ | with_reducible refine below_drewN ?_ _ | with_reducible refine bset ?_ ?_ _ | with_reducible exact Nat.le_refl _ | with_reducible refine bsize ?_ | (dsimp only; refine Nat.le_trans ?_ (Nat.le_add_right _ _)) | with_reducible refine Nat.le_trans ?_ (Nat.le_add_right _ _) | (with_reducible refine bstep ?_ (by assumption))))); obtain ⟨kc3, kf3, kz3, ky3, kx3, kv3, ku3⟩ := bcell hb3; obtain ⟨jc3, jf3, jz3, jy3, jx3, jv3, ju3⟩ := bcell ha3)
        (go_wp2_with fail; refine (HC.out _).mono ?_; rintro e w4 ⟨rfl, hb4⟩; have ha4 := bjoin ha3 hb4 (by (repeat (first | with_reducible exact Below.refl _ _ | with_reducible assumption | with_reducible refine balloc ?_ _ | with_reducible refine bdrew ?_ | with_reducible refine below_drewN ?_ _ | with_reducible refine bset ?_ ?_ _ | with_reducible exact Nat.le_refl _ | with_reducible refine bsize ?_ | (dsimp only; refine Nat.le_trans ?_ (Nat.le_add_right _ _)) | with_reducible refine Nat.le_trans ?_ (Nat.le_add_right _ _) | (with_reducible refine bstep ?_ (by assumption))))); obtain ⟨kc4, kf4, kz4, ky4, kx4, kv4, ku4⟩ := bcell hb4; obtain ⟨jc4, jf4, jz4, jy4, jx4, jv4, ju4⟩ := bcell ha4)
        go_wp2
        go_ret2
        refine ⟨rfl, ?_⟩
        (repeat (first | with_reducible exact Below.refl _ _ | with_reducible assumption | with_reducible refine balloc ?_ _ | with_reducible refine bdrew ?_ | with_reducible refine below_drewN ?_ _ | with_reducible refine bset ?_ ?_ _ | with_reducible exact Nat.le_refl _ | with_reducible refine bsize ?_ | (dsimp only; refine Nat.le_trans ?_ (Nat.le_add_right _ _)) | with_reducible refine Nat.le_trans ?_ (Nat.le_add_right _ _) | (with_reducible refine bstep ?_ (by assumption))))
end Go.Proofs.Ytifmijpipeekfaa
