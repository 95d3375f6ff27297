/- Camels: OneStop on both sides, at all arguments. -/
import Derived.Test.YtkignanlkakdpaaCamU
namespace Go.Proofs.Ytkignanlkakdpaa
open Go.ChangeShapes Go.WideShapes Go.ChangeAt Go.RowKit Go.Joins
set_option maxRecDepth 100000
set_option linter.unusedVariables false
set_option linter.unusedSimpArgs false

set_option maxHeartbeats 1600000 in
theorem oneStop_spec (L E n d p q r s : Int) (bn : -9223372036854775808 ≤ n ∧ n ≤ 9223372036854775807) (bd : -9223372036854775808 ≤ d ∧ d ≤ 9223372036854775807) (bp : -9223372036854775808 ≤ p ∧ p ≤ 9223372036854775807) (bq : -9223372036854775808 ≤ q ∧ q ≤ 9223372036854775807) (br : -9223372036854775808 ≤ r ∧ r ≤ 9223372036854775807) (bs : -9223372036854775808 ≤ s ∧ s ≤ 9223372036854775807) (w : World) :
    Calls Try.prog 40 #[.agg #[.int .i64 L, .int .i64 E], .agg #[.int .i64 n, .int .i64 d], .agg #[.int .i64 p, .int .i64 q], .agg #[.int .i64 r, .int .i64 s]] w fun e w' => e = .returned (.tuple #[.agg #[.int .i64 (twoN (osK L E n d p q r s) (osX L E n d p q r s) (osM L E n d p q r s)), .int .i64 (twoD (osK L E n d p q r s) (osX L E n d p q r s) (osM L E n d p q r s))], .bool (twoB (osK L E n d p q r s) (osX L E n d p q r s) (osM L E n d p q r s))]) ∧ Below w.heap.size w w' := by
  have HA := Lib.hid (fun W => ask_spec L E n d bn bd W)
  have HP := Lib.hid (fun W => place_spec p q bp bq W)
  have HQ := Lib.hid (fun W => place_spec r s br bs W)
  cases h1 : askB L E n d
  · obtain ⟨e1, e2, e3⟩ := no_low (osK L E n d p q r s) (osX L E n d p q r s) (osM L E n d p q r s) (by simp [osK, h1])
    rw [e1, e2, e3]
    clear e1 e2 e3
    rw [h1] at HA
    clear h1
    go_enter Try.func40, Try.ntmps40
    (go_wp2_with fail; refine (HA.out _).mono ?_; rintro e w1 ⟨rfl, hb1⟩; have ha1 := hb1; obtain ⟨kc1, kf1, kz1, ky1, kx1, kv1, ku1⟩ := bcell hb1)
    go_wp2
    refine bodyPost_ret (v := .tuple #[.agg #[.int .i64 0, .int .i64 0], .bool false]) (by simp only [results, Try.results40]; go_simp) rfl ⟨rfl, ?_⟩
    (repeat (first | with_reducible exact Below.refl _ _ | with_reducible assumption | with_reducible refine balloc ?_ _ | with_reducible refine bdrew ?_ | with_reducible refine below_drewN ?_ _ | with_reducible refine bset ?_ ?_ _ | with_reducible exact Nat.le_refl _ | with_reducible refine bsize ?_ | (dsimp only; refine Nat.le_trans ?_ (Nat.le_add_right _ _)) | with_reducible refine Nat.le_trans ?_ (Nat.le_add_right _ _) | (with_reducible refine bstep ?_ (by assumption))))
  cases h2 : plB p q
  · obtain ⟨e1, e2, e3⟩ := no_low (osK L E n d p q r s) (osX L E n d p q r s) (osM L E n d p q r s) (by simp [osK, h2])
    rw [e1, e2, e3]
    clear e1 e2 e3
    rw [h1] at HA
    rw [h2] at HP
    clear h1 h2
    go_enter Try.func40, Try.ntmps40
    (go_wp2_with fail; refine (HA.out _).mono ?_; rintro e w1 ⟨rfl, hb1⟩; have ha1 := hb1; obtain ⟨kc1, kf1, kz1, ky1, kx1, kv1, ku1⟩ := bcell hb1)
    (go_wp2_with fail; refine (HP.out _).mono ?_; rintro e w2 ⟨rfl, hb2⟩; have ha2 := bjoin ha1 hb2 (by (repeat (first | with_reducible exact Below.refl _ _ | with_reducible assumption | with_reducible refine balloc ?_ _ | with_reducible refine bdrew ?_ | with_reducible refine below_drewN ?_ _ | with_reducible refine bset ?_ ?_ _ | with_reducible exact Nat.le_refl _ | with_reducible refine bsize ?_ | (dsimp only; refine Nat.le_trans ?_ (Nat.le_add_right _ _)) | with_reducible refine Nat.le_trans ?_ (Nat.le_add_right _ _) | (with_reducible refine bstep ?_ (by assumption))))); obtain ⟨kc2, kf2, kz2, ky2, kx2, kv2, ku2⟩ := bcell hb2; obtain ⟨jc2, jf2, jz2, jy2, jx2, jv2, ju2⟩ := bcell ha2)
    go_wp2
    refine bodyPost_ret (v := .tuple #[.agg #[.int .i64 0, .int .i64 0], .bool false]) (by simp only [results, Try.results40]; go_simp) rfl ⟨rfl, ?_⟩
    (repeat (first | with_reducible exact Below.refl _ _ | with_reducible assumption | with_reducible refine balloc ?_ _ | with_reducible refine bdrew ?_ | with_reducible refine below_drewN ?_ _ | with_reducible refine bset ?_ ?_ _ | with_reducible exact Nat.le_refl _ | with_reducible refine bsize ?_ | (dsimp only; refine Nat.le_trans ?_ (Nat.le_add_right _ _)) | with_reducible refine Nat.le_trans ?_ (Nat.le_add_right _ _) | (with_reducible refine bstep ?_ (by assumption))))
  cases h3 : plB r s
  · obtain ⟨e1, e2, e3⟩ := no_low (osK L E n d p q r s) (osX L E n d p q r s) (osM L E n d p q r s) (by simp [osK, h3])
    rw [e1, e2, e3]
    clear e1 e2 e3
    rw [h1] at HA
    rw [h2] at HP
    rw [h3] at HQ
    clear h1 h2 h3
    go_enter Try.func40, Try.ntmps40
    (go_wp2_with fail; refine (HA.out _).mono ?_; rintro e w1 ⟨rfl, hb1⟩; have ha1 := hb1; obtain ⟨kc1, kf1, kz1, ky1, kx1, kv1, ku1⟩ := bcell hb1)
    have r1 : w1.cell? ⟨w.heap.size + 1 + 1 + 1 + 1, 0, none⟩ = some (.int .i64 0) := (by rw [kc1 (w.heap.size + 1 + 1 + 1 + 1) _ (by first | (simp; done) | (simp; omega))]; first | (simp; done) | (simp [go_sem]; done)); have r2 : w1.cell? ⟨w.heap.size + 1 + 1 + 1 + 1, 1, none⟩ = some (.int .i64 0) := (by rw [kc1 (w.heap.size + 1 + 1 + 1 + 1) _ (by first | (simp; done) | (simp; omega))]; first | (simp; done) | (simp [go_sem]; done)); have r3 : w1.frozen? ⟨w.heap.size + 1 + 1 + 1 + 1, 0, none⟩ = false := (by rw [kf1 (w.heap.size + 1 + 1 + 1 + 1) _ (by first | (simp; done) | (simp; omega))]; first | (simp; done) | (simp [go_sem]; done)); have r4 : w1.frozen? ⟨w.heap.size + 1 + 1 + 1 + 1, 1, none⟩ = false := (by rw [kf1 (w.heap.size + 1 + 1 + 1 + 1) _ (by first | (simp; done) | (simp; omega))]; first | (simp; done) | (simp [go_sem]; done)); have rz : w.heap.size + 1 + 1 + 1 + 1 < w1.heap.size := kz1 (w.heap.size + 1 + 1 + 1 + 1) (by first | (simp; done) | (simp; omega))
    (go_wp2_with fail; refine (HP.out _).mono ?_; rintro e w2 ⟨rfl, hb2⟩; have ha2 := bjoin ha1 hb2 (by (repeat (first | with_reducible exact Below.refl _ _ | with_reducible assumption | with_reducible refine balloc ?_ _ | with_reducible refine bdrew ?_ | with_reducible refine below_drewN ?_ _ | with_reducible refine bset ?_ ?_ _ | with_reducible exact Nat.le_refl _ | with_reducible refine bsize ?_ | (dsimp only; refine Nat.le_trans ?_ (Nat.le_add_right _ _)) | with_reducible refine Nat.le_trans ?_ (Nat.le_add_right _ _) | (with_reducible refine bstep ?_ (by assumption))))); obtain ⟨kc2, kf2, kz2, ky2, kx2, kv2, ku2⟩ := bcell hb2; obtain ⟨jc2, jf2, jz2, jy2, jx2, jv2, ju2⟩ := bcell ha2)
    (have rb : Below w1.heap.size w1 w2 := bstep (by (repeat (first | with_reducible exact Below.refl _ _ | with_reducible assumption | with_reducible refine balloc ?_ _ | with_reducible refine bdrew ?_ | with_reducible refine below_drewN ?_ _ | with_reducible refine bset ?_ ?_ _ | with_reducible exact Nat.le_refl _ | with_reducible refine bsize ?_ | (dsimp only; refine Nat.le_trans ?_ (Nat.le_add_right _ _)) | with_reducible refine Nat.le_trans ?_ (Nat.le_add_right _ _) | (with_reducible refine bstep ?_ (by assumption))))) hb2); replace r1 := keepa rb rz r1; replace r2 := keepa rb rz r2; replace r3 := keepz rb rz r3; replace r4 := keepz rb rz r4; replace rz := Nat.lt_of_lt_of_le rz rb.size; clear rb
    (go_wp2_with fail; refine (HQ.out _).mono ?_; rintro e w3 ⟨rfl, hb3⟩; (have ha3 : Below w.heap.size w w3 := by (repeat (first | with_reducible exact Below.refl _ _ | with_reducible assumption | with_reducible refine balloc ?_ _ | with_reducible refine bdrew ?_ | with_reducible refine below_drewN ?_ _ | with_reducible refine bset ?_ ?_ _ | with_reducible exact Nat.le_refl _ | with_reducible refine bsize ?_ | (dsimp only; refine Nat.le_trans ?_ (Nat.le_add_right _ _)) | with_reducible refine Nat.le_trans ?_ (Nat.le_add_right _ _) | (with_reducible refine bstep ?_ (by assumption))))); obtain ⟨kc3, kf3, kz3, ky3, kx3, kv3, ku3⟩ := bcell hb3)
    (have rb : Below w2.heap.size w2 w3 := bstep (by (repeat (first | with_reducible exact Below.refl _ _ | with_reducible assumption | with_reducible refine balloc ?_ _ | with_reducible refine bdrew ?_ | with_reducible refine below_drewN ?_ _ | with_reducible refine bset ?_ ?_ _ | with_reducible exact Nat.le_refl _ | with_reducible refine bsize ?_ | (dsimp only; refine Nat.le_trans ?_ (Nat.le_add_right _ _)) | with_reducible refine Nat.le_trans ?_ (Nat.le_add_right _ _) | (with_reducible refine bstep ?_ (by assumption))))) hb3); replace r1 := keepa rb rz r1; replace r2 := keepa rb rz r2; replace r3 := keepz rb rz r3; replace r4 := keepz rb rz r4; replace rz := Nat.lt_of_lt_of_le rz rb.size; clear rb
    go_wp2
    refine bodyPost_ret (v := .tuple #[.agg #[.int .i64 0, .int .i64 0], .bool false]) (by simp only [results, Try.results40]; go_simp) rfl ⟨rfl, ?_⟩
    (repeat (first | with_reducible exact Below.refl _ _ | with_reducible assumption | with_reducible refine balloc ?_ _ | with_reducible refine bdrew ?_ | with_reducible refine below_drewN ?_ _ | with_reducible refine bset ?_ ?_ _ | with_reducible exact Nat.le_refl _ | with_reducible refine bsize ?_ | (dsimp only; refine Nat.le_trans ?_ (Nat.le_add_right _ _)) | with_reducible refine Nat.le_trans ?_ (Nat.le_add_right _ _) | (with_reducible refine bstep ?_ (by assumption))))
  obtain ⟨i1, i2, i3, i4⟩ := askB_yes L E n d h1
  obtain ⟨i5, i6⟩ := plB_yes p q h2
  obtain ⟨i7, i8⟩ := plB_yes r s h3
  obtain ⟨j1, j2, j3, j4⟩ := camB_yes L E i1
  obtain ⟨x1, x2, x3, x4⟩ := am_of n d i2
  obtain ⟨y1, y2, y3, y4⟩ := am_of p q i5
  obtain ⟨v1, v2, v3, v4⟩ := am_of r s i7
  have hk : osK L E n d p q r s = decide (p * s ≤ r * q) := by unfold osK; rw [h1, h2, h3]; rfl
  have HC := Lib.hid (fun W => caStop_spec L E n d p q r s j1 j2 j3 j4 x1 x3 i3 i4 y1 y2 y3 i6 v1 v2 v3 i8 (am_of p q i5) (am_of r s i7) W)
  unfold osX osM
  rw [hk]
  rw [h1] at HA
  rw [h2] at HP
  rw [h3] at HQ
  generalize twoN (decide (p * s ≤ r * q)) (osB L E n d p q r s) (d * q * s) = X at *
  generalize twoD (decide (p * s ≤ r * q)) (osB L E n d p q r s) (d * q * s) = Y at *
  generalize twoB (decide (p * s ≤ r * q)) (osB L E n d p q r s) (d * q * s) = B at *
  clear hk h1 h2 h3 i1 i2 i5 i7
  go_enter Try.func40, Try.ntmps40
  (go_wp2_with fail; refine (HA.out _).mono ?_; rintro e w1 ⟨rfl, hb1⟩; have ha1 := hb1; obtain ⟨kc1, kf1, kz1, ky1, kx1, kv1, ku1⟩ := bcell hb1)
  have r1 : w1.cell? ⟨w.heap.size + 1 + 1 + 1 + 1, 0, none⟩ = some (.int .i64 0) := (by rw [kc1 (w.heap.size + 1 + 1 + 1 + 1) _ (by first | (simp; done) | (simp; omega))]; first | (simp; done) | (simp [go_sem]; done)); have r2 : w1.cell? ⟨w.heap.size + 1 + 1 + 1 + 1, 1, none⟩ = some (.int .i64 0) := (by rw [kc1 (w.heap.size + 1 + 1 + 1 + 1) _ (by first | (simp; done) | (simp; omega))]; first | (simp; done) | (simp [go_sem]; done)); have r3 : w1.frozen? ⟨w.heap.size + 1 + 1 + 1 + 1, 0, none⟩ = false := (by rw [kf1 (w.heap.size + 1 + 1 + 1 + 1) _ (by first | (simp; done) | (simp; omega))]; first | (simp; done) | (simp [go_sem]; done)); have r4 : w1.frozen? ⟨w.heap.size + 1 + 1 + 1 + 1, 1, none⟩ = false := (by rw [kf1 (w.heap.size + 1 + 1 + 1 + 1) _ (by first | (simp; done) | (simp; omega))]; first | (simp; done) | (simp [go_sem]; done)); have rz : w.heap.size + 1 + 1 + 1 + 1 < w1.heap.size := kz1 (w.heap.size + 1 + 1 + 1 + 1) (by first | (simp; done) | (simp; omega))
  (go_wp2_with fail; refine (HP.out _).mono ?_; rintro e w2 ⟨rfl, hb2⟩; have ha2 := bjoin ha1 hb2 (by (repeat (first | with_reducible exact Below.refl _ _ | with_reducible assumption | with_reducible refine balloc ?_ _ | with_reducible refine bdrew ?_ | with_reducible refine below_drewN ?_ _ | with_reducible refine bset ?_ ?_ _ | with_reducible exact Nat.le_refl _ | with_reducible refine bsize ?_ | (dsimp only; refine Nat.le_trans ?_ (Nat.le_add_right _ _)) | with_reducible refine Nat.le_trans ?_ (Nat.le_add_right _ _) | (with_reducible refine bstep ?_ (by assumption))))); obtain ⟨kc2, kf2, kz2, ky2, kx2, kv2, ku2⟩ := bcell hb2; obtain ⟨jc2, jf2, jz2, jy2, jx2, jv2, ju2⟩ := bcell ha2)
  (have rb : Below w1.heap.size w1 w2 := bstep (by (repeat (first | with_reducible exact Below.refl _ _ | with_reducible assumption | with_reducible refine balloc ?_ _ | with_reducible refine bdrew ?_ | with_reducible refine below_drewN ?_ _ | with_reducible refine bset ?_ ?_ _ | with_reducible exact Nat.le_refl _ | with_reducible refine bsize ?_ | (dsimp only; refine Nat.le_trans ?_ (Nat.le_add_right _ _)) | with_reducible refine Nat.le_trans ?_ (Nat.le_add_right _ _) | (with_reducible refine bstep ?_ (by assumption))))) hb2); replace r1 := keepa rb rz r1; replace r2 := keepa rb rz r2; replace r3 := keepz rb rz r3; replace r4 := keepz rb rz r4; replace rz := Nat.lt_of_lt_of_le rz rb.size; clear rb
  (go_wp2_with fail; refine (HQ.out _).mono ?_; rintro e w3 ⟨rfl, hb3⟩; (have ha3 : Below w.heap.size w w3 := by (repeat (first | with_reducible exact Below.refl _ _ | with_reducible assumption | with_reducible refine balloc ?_ _ | with_reducible refine bdrew ?_ | with_reducible refine below_drewN ?_ _ | with_reducible refine bset ?_ ?_ _ | with_reducible exact Nat.le_refl _ | with_reducible refine bsize ?_ | (dsimp only; refine Nat.le_trans ?_ (Nat.le_add_right _ _)) | with_reducible refine Nat.le_trans ?_ (Nat.le_add_right _ _) | (with_reducible refine bstep ?_ (by assumption))))); obtain ⟨kc3, kf3, kz3, ky3, kx3, kv3, ku3⟩ := bcell hb3)
  (have rb : Below w2.heap.size w2 w3 := bstep (by (repeat (first | with_reducible exact Below.refl _ _ | with_reducible assumption | with_reducible refine balloc ?_ _ | with_reducible refine bdrew ?_ | with_reducible refine below_drewN ?_ _ | with_reducible refine bset ?_ ?_ _ | with_reducible exact Nat.le_refl _ | with_reducible refine bsize ?_ | (dsimp only; refine Nat.le_trans ?_ (Nat.le_add_right _ _)) | with_reducible refine Nat.le_trans ?_ (Nat.le_add_right _ _) | (with_reducible refine bstep ?_ (by assumption))))) hb3); replace r1 := keepa rb rz r1; replace r2 := keepa rb rz r2; replace r3 := keepz rb rz r3; replace r4 := keepz rb rz r4; replace rz := Nat.lt_of_lt_of_le rz rb.size; clear rb
  (go_wp2_with fail; refine (HC.out _).mono ?_; rintro e w4 ⟨rfl, hb4⟩; (have ha4 : Below w.heap.size w w4 := by (repeat (first | with_reducible exact Below.refl _ _ | with_reducible assumption | with_reducible refine balloc ?_ _ | with_reducible refine bdrew ?_ | with_reducible refine below_drewN ?_ _ | with_reducible refine bset ?_ ?_ _ | with_reducible exact Nat.le_refl _ | with_reducible refine bsize ?_ | (dsimp only; refine Nat.le_trans ?_ (Nat.le_add_right _ _)) | with_reducible refine Nat.le_trans ?_ (Nat.le_add_right _ _) | (with_reducible refine bstep ?_ (by assumption))))); obtain ⟨kc4, kf4, kz4, ky4, kx4, kv4, ku4⟩ := bcell hb4)
  (have rb : Below w3.heap.size w3 w4 := bstep (by (repeat (first | with_reducible exact Below.refl _ _ | with_reducible assumption | with_reducible refine balloc ?_ _ | with_reducible refine bdrew ?_ | with_reducible refine below_drewN ?_ _ | with_reducible refine bset ?_ ?_ _ | with_reducible exact Nat.le_refl _ | with_reducible refine bsize ?_ | (dsimp only; refine Nat.le_trans ?_ (Nat.le_add_right _ _)) | with_reducible refine Nat.le_trans ?_ (Nat.le_add_right _ _) | (with_reducible refine bstep ?_ (by assumption))))) hb4); replace r1 := keepa rb rz r1; replace r2 := keepa rb rz r2; replace r3 := keepz rb rz r3; replace r4 := keepz rb rz r4; replace rz := Nat.lt_of_lt_of_le rz rb.size; clear rb
  go_wp2
  refine bodyPost_ret (v := .tuple #[.agg #[.int .i64 X, .int .i64 Y], .bool B]) (by simp only [results, Try.results40]; go_simp) rfl ⟨rfl, ?_⟩
  (repeat (first | with_reducible exact Below.refl _ _ | with_reducible assumption | with_reducible refine balloc ?_ _ | with_reducible refine bdrew ?_ | with_reducible refine below_drewN ?_ _ | with_reducible refine bset ?_ ?_ _ | with_reducible exact Nat.le_refl _ | with_reducible refine bsize ?_ | (dsimp only; refine Nat.le_trans ?_ (Nat.le_add_right _ _)) | with_reducible refine Nat.le_trans ?_ (Nat.le_add_right _ _) | (with_reducible refine bstep ?_ (by assumption))))
set_option maxHeartbeats 1600000 in
theorem oneStop_impl (L E n d p q r s : Int) (bn : -9223372036854775808 ≤ n ∧ n ≤ 9223372036854775807) (bd : -9223372036854775808 ≤ d ∧ d ≤ 9223372036854775807) (bp : -9223372036854775808 ≤ p ∧ p ≤ 9223372036854775807) (bq : -9223372036854775808 ≤ q ∧ q ≤ 9223372036854775807) (br : -9223372036854775808 ≤ r ∧ r ≤ 9223372036854775807) (bs : -9223372036854775808 ≤ s ∧ s ≤ 9223372036854775807) (w : World) :
    Calls Try.prog 41 #[.agg #[.int .i64 L, .int .i64 E], .agg #[.int .i64 n, .int .i64 d], .agg #[.int .i64 p, .int .i64 q], .agg #[.int .i64 r, .int .i64 s]] w fun e w' => e = .returned (.tuple #[.agg #[.int .i64 (twoN (osK L E n d p q r s) (osX L E n d p q r s) (osM L E n d p q r s)), .int .i64 (twoD (osK L E n d p q r s) (osX L E n d p q r s) (osM L E n d p q r s))], .bool (twoB (osK L E n d p q r s) (osX L E n d p q r s) (osM L E n d p q r s))]) ∧ Below w.heap.size w w' := by
  have HA := Lib.hid (fun W => ask_impl L E n d bn bd W)
  have HP := Lib.hid (fun W => place_impl p q bp bq W)
  have HQ := Lib.hid (fun W => place_impl r s br bs W)
  cases h1 : askB L E n d
  · obtain ⟨e1, e2, e3⟩ := no_low (osK L E n d p q r s) (osX L E n d p q r s) (osM L E n d p q r s) (by simp [osK, h1])
    rw [e1, e2, e3]
    clear e1 e2 e3
    rw [h1] at HA
    clear h1
    go_enter Try.func41, Try.ntmps41
    (go_wp2_with fail; refine (HA.out _).mono ?_; rintro e w1 ⟨rfl, hb1⟩; have ha1 := hb1; obtain ⟨kc1, kf1, kz1, ky1, kx1, kv1, ku1⟩ := bcell hb1)
    go_wp2
    refine bodyPost_ret (v := .tuple #[.agg #[.int .i64 0, .int .i64 0], .bool false]) (by simp only [results, Try.results41]; go_simp) rfl ⟨rfl, ?_⟩
    (repeat (first | with_reducible exact Below.refl _ _ | with_reducible assumption | with_reducible refine balloc ?_ _ | with_reducible refine bdrew ?_ | with_reducible refine below_drewN ?_ _ | with_reducible refine bset ?_ ?_ _ | with_reducible exact Nat.le_refl _ | with_reducible refine bsize ?_ | (dsimp only; refine Nat.le_trans ?_ (Nat.le_add_right _ _)) | with_reducible refine Nat.le_trans ?_ (Nat.le_add_right _ _) | (with_reducible refine bstep ?_ (by assumption))))
  cases h2 : plB p q
  · obtain ⟨e1, e2, e3⟩ := no_low (osK L E n d p q r s) (osX L E n d p q r s) (osM L E n d p q r s) (by simp [osK, h2])
    rw [e1, e2, e3]
    clear e1 e2 e3
    rw [h1] at HA
    rw [h2] at HP
    clear h1 h2
    go_enter Try.func41, Try.ntmps41
    (go_wp2_with fail; refine (HA.out _).mono ?_; rintro e w1 ⟨rfl, hb1⟩; have ha1 := hb1; obtain ⟨kc1, kf1, kz1, ky1, kx1, kv1, ku1⟩ := bcell hb1)
    (go_wp2_with fail; refine (HP.out _).mono ?_; rintro e w2 ⟨rfl, hb2⟩; have ha2 := bjoin ha1 hb2 (by (repeat (first | with_reducible exact Below.refl _ _ | with_reducible assumption | with_reducible refine balloc ?_ _ | with_reducible refine bdrew ?_ | with_reducible refine below_drewN ?_ _ | with_reducible refine bset ?_ ?_ _ | with_reducible exact Nat.le_refl _ | with_reducible refine bsize ?_ | (dsimp only; refine Nat.le_trans ?_ (Nat.le_add_right _ _)) | with_reducible refine Nat.le_trans ?_ (Nat.le_add_right _ _) | (with_reducible refine bstep ?_ (by assumption))))); obtain ⟨kc2, kf2, kz2, ky2, kx2, kv2, ku2⟩ := bcell hb2; obtain ⟨jc2, jf2, jz2, jy2, jx2, jv2, ju2⟩ := bcell ha2)
    go_wp2
    refine bodyPost_ret (v := .tuple #[.agg #[.int .i64 0, .int .i64 0], .bool false]) (by simp only [results, Try.results41]; go_simp) rfl ⟨rfl, ?_⟩
    (repeat (first | with_reducible exact Below.refl _ _ | with_reducible assumption | with_reducible refine balloc ?_ _ | with_reducible refine bdrew ?_ | with_reducible refine below_drewN ?_ _ | with_reducible refine bset ?_ ?_ _ | with_reducible exact Nat.le_refl _ | with_reducible refine bsize ?_ | (dsimp only; refine Nat.le_trans ?_ (Nat.le_add_right _ _)) | with_reducible refine Nat.le_trans ?_ (Nat.le_add_right _ _) | (with_reducible refine bstep ?_ (by assumption))))
  cases h3 : plB r s
  · obtain ⟨e1, e2, e3⟩ := no_low (osK L E n d p q r s) (osX L E n d p q r s) (osM L E n d p q r s) (by simp [osK, h3])
    rw [e1, e2, e3]
    clear e1 e2 e3
    rw [h1] at HA
    rw [h2] at HP
    rw [h3] at HQ
    clear h1 h2 h3
    go_enter Try.func41, Try.ntmps41
    (go_wp2_with fail; refine (HA.out _).mono ?_; rintro e w1 ⟨rfl, hb1⟩; have ha1 := hb1; obtain ⟨kc1, kf1, kz1, ky1, kx1, kv1, ku1⟩ := bcell hb1)
    have r1 : w1.cell? ⟨w.heap.size + 1 + 1 + 1 + 1, 0, none⟩ = some (.int .i64 0) := (by rw [kc1 (w.heap.size + 1 + 1 + 1 + 1) _ (by first | (simp; done) | (simp; omega))]; first | (simp; done) | (simp [go_sem]; done)); have r2 : w1.cell? ⟨w.heap.size + 1 + 1 + 1 + 1, 1, none⟩ = some (.int .i64 0) := (by rw [kc1 (w.heap.size + 1 + 1 + 1 + 1) _ (by first | (simp; done) | (simp; omega))]; first | (simp; done) | (simp [go_sem]; done)); have r3 : w1.frozen? ⟨w.heap.size + 1 + 1 + 1 + 1, 0, none⟩ = false := (by rw [kf1 (w.heap.size + 1 + 1 + 1 + 1) _ (by first | (simp; done) | (simp; omega))]; first | (simp; done) | (simp [go_sem]; done)); have r4 : w1.frozen? ⟨w.heap.size + 1 + 1 + 1 + 1, 1, none⟩ = false := (by rw [kf1 (w.heap.size + 1 + 1 + 1 + 1) _ (by first | (simp; done) | (simp; omega))]; first | (simp; done) | (simp [go_sem]; done)); have rz : w.heap.size + 1 + 1 + 1 + 1 < w1.heap.size := kz1 (w.heap.size + 1 + 1 + 1 + 1) (by first | (simp; done) | (simp; omega))
    (go_wp2_with fail; refine (HP.out _).mono ?_; rintro e w2 ⟨rfl, hb2⟩; have ha2 := bjoin ha1 hb2 (by (repeat (first | with_reducible exact Below.refl _ _ | with_reducible assumption | with_reducible refine balloc ?_ _ | with_reducible refine bdrew ?_ | with_reducible refine below_drewN ?_ _ | with_reducible refine bset ?_ ?_ _ | with_reducible exact Nat.le_refl _ | with_reducible refine bsize ?_ | (dsimp only; refine Nat.le_trans ?_ (Nat.le_add_right _ _)) | with_reducible refine Nat.le_trans ?_ (Nat.le_add_right _ _) | (with_reducible refine bstep ?_ (by assumption))))); obtain ⟨kc2, kf2, kz2, ky2, kx2, kv2, ku2⟩ := bcell hb2; obtain ⟨jc2, jf2, jz2, jy2, jx2, jv2, ju2⟩ := bcell ha2)
    (have rb : Below w1.heap.size w1 w2 := bstep (by (repeat (first | with_reducible exact Below.refl _ _ | with_reducible assumption | with_reducible refine balloc ?_ _ | with_reducible refine bdrew ?_ | with_reducible refine below_drewN ?_ _ | with_reducible refine bset ?_ ?_ _ | with_reducible exact Nat.le_refl _ | with_reducible refine bsize ?_ | (dsimp only; refine Nat.le_trans ?_ (Nat.le_add_right _ _)) | with_reducible refine Nat.le_trans ?_ (Nat.le_add_right _ _) | (with_reducible refine bstep ?_ (by assumption))))) hb2); replace r1 := keepa rb rz r1; replace r2 := keepa rb rz r2; replace r3 := keepz rb rz r3; replace r4 := keepz rb rz r4; replace rz := Nat.lt_of_lt_of_le rz rb.size; clear rb
    (go_wp2_with fail; refine (HQ.out _).mono ?_; rintro e w3 ⟨rfl, hb3⟩; (have ha3 : Below w.heap.size w w3 := by (repeat (first | with_reducible exact Below.refl _ _ | with_reducible assumption | with_reducible refine balloc ?_ _ | with_reducible refine bdrew ?_ | with_reducible refine below_drewN ?_ _ | with_reducible refine bset ?_ ?_ _ | with_reducible exact Nat.le_refl _ | with_reducible refine bsize ?_ | (dsimp only; refine Nat.le_trans ?_ (Nat.le_add_right _ _)) | with_reducible refine Nat.le_trans ?_ (Nat.le_add_right _ _) | (with_reducible refine bstep ?_ (by assumption))))); obtain ⟨kc3, kf3, kz3, ky3, kx3, kv3, ku3⟩ := bcell hb3)
    (have rb : Below w2.heap.size w2 w3 := bstep (by (repeat (first | with_reducible exact Below.refl _ _ | with_reducible assumption | with_reducible refine balloc ?_ _ | with_reducible refine bdrew ?_ | with_reducible refine below_drewN ?_ _ | with_reducible refine bset ?_ ?_ _ | with_reducible exact Nat.le_refl _ | with_reducible refine bsize ?_ | (dsimp only; refine Nat.le_trans ?_ (Nat.le_add_right _ _)) | with_reducible refine Nat.le_trans ?_ (Nat.le_add_right _ _) | (with_reducible refine bstep ?_ (by assumption))))) hb3); replace r1 := keepa rb rz r1; replace r2 := keepa rb rz r2; replace r3 := keepz rb rz r3; replace r4 := keepz rb rz r4; replace rz := Nat.lt_of_lt_of_le rz rb.size; clear rb
    go_wp2
    refine bodyPost_ret (v := .tuple #[.agg #[.int .i64 0, .int .i64 0], .bool false]) (by simp only [results, Try.results41]; go_simp) rfl ⟨rfl, ?_⟩
    (repeat (first | with_reducible exact Below.refl _ _ | with_reducible assumption | with_reducible refine balloc ?_ _ | with_reducible refine bdrew ?_ | with_reducible refine below_drewN ?_ _ | with_reducible refine bset ?_ ?_ _ | with_reducible exact Nat.le_refl _ | with_reducible refine bsize ?_ | (dsimp only; refine Nat.le_trans ?_ (Nat.le_add_right _ _)) | with_reducible refine Nat.le_trans ?_ (Nat.le_add_right _ _) | (with_reducible refine bstep ?_ (by assumption))))
  obtain ⟨i1, i2, i3, i4⟩ := askB_yes L E n d h1
  obtain ⟨i5, i6⟩ := plB_yes p q h2
  obtain ⟨i7, i8⟩ := plB_yes r s h3
  obtain ⟨j1, j2, j3, j4⟩ := camB_yes L E i1
  obtain ⟨x1, x2, x3, x4⟩ := am_of n d i2
  obtain ⟨y1, y2, y3, y4⟩ := am_of p q i5
  obtain ⟨v1, v2, v3, v4⟩ := am_of r s i7
  have hk : osK L E n d p q r s = decide (p * s ≤ r * q) := by unfold osK; rw [h1, h2, h3]; rfl
  have HC := Lib.hid (fun W => oneStop_m L E n d p q r s j1 j2 j3 j4 x1 x3 i3 i4 y1 y2 y3 i6 v1 v2 v3 i8 W)
  rw [os_iff E d p q r s j3 x3] at HC
  unfold osX osM
  rw [hk]
  rw [h1] at HA
  rw [h2] at HP
  rw [h3] at HQ
  generalize twoN (decide (p * s ≤ r * q)) (osB L E n d p q r s) (d * q * s) = X at *
  generalize twoD (decide (p * s ≤ r * q)) (osB L E n d p q r s) (d * q * s) = Y at *
  generalize twoB (decide (p * s ≤ r * q)) (osB L E n d p q r s) (d * q * s) = B at *
  clear hk h1 h2 h3 i1 i2 i5 i7
  go_enter Try.func41, Try.ntmps41
  (go_wp2_with fail; refine (HA.out _).mono ?_; rintro e w1 ⟨rfl, hb1⟩; have ha1 := hb1; obtain ⟨kc1, kf1, kz1, ky1, kx1, kv1, ku1⟩ := bcell hb1)
  have r1 : w1.cell? ⟨w.heap.size + 1 + 1 + 1 + 1, 0, none⟩ = some (.int .i64 0) := (by rw [kc1 (w.heap.size + 1 + 1 + 1 + 1) _ (by first | (simp; done) | (simp; omega))]; first | (simp; done) | (simp [go_sem]; done)); have r2 : w1.cell? ⟨w.heap.size + 1 + 1 + 1 + 1, 1, none⟩ = some (.int .i64 0) := (by rw [kc1 (w.heap.size + 1 + 1 + 1 + 1) _ (by first | (simp; done) | (simp; omega))]; first | (simp; done) | (simp [go_sem]; done)); have r3 : w1.frozen? ⟨w.heap.size + 1 + 1 + 1 + 1, 0, none⟩ = false := (by rw [kf1 (w.heap.size + 1 + 1 + 1 + 1) _ (by first | (simp; done) | (simp; omega))]; first | (simp; done) | (simp [go_sem]; done)); have r4 : w1.frozen? ⟨w.heap.size + 1 + 1 + 1 + 1, 1, none⟩ = false := (by rw [kf1 (w.heap.size + 1 + 1 + 1 + 1) _ (by first | (simp; done) | (simp; omega))]; first | (simp; done) | (simp [go_sem]; done)); have rz : w.heap.size + 1 + 1 + 1 + 1 < w1.heap.size := kz1 (w.heap.size + 1 + 1 + 1 + 1) (by first | (simp; done) | (simp; omega))
  (go_wp2_with fail; refine (HP.out _).mono ?_; rintro e w2 ⟨rfl, hb2⟩; have ha2 := bjoin ha1 hb2 (by (repeat (first | with_reducible exact Below.refl _ _ | with_reducible assumption | with_reducible refine balloc ?_ _ | with_reducible refine bdrew ?_ | with_reducible refine below_drewN ?_ _ | with_reducible refine bset ?_ ?_ _ | with_reducible exact Nat.le_refl _ | with_reducible refine bsize ?_ | (dsimp only; refine Nat.le_trans ?_ (Nat.le_add_right _ _)) | with_reducible refine Nat.le_trans ?_ (Nat.le_add_right _ _) | (with_reducible refine bstep ?_ (by assumption))))); obtain ⟨kc2, kf2, kz2, ky2, kx2, kv2, ku2⟩ := bcell hb2; obtain ⟨jc2, jf2, jz2, jy2, jx2, jv2, ju2⟩ := bcell ha2)
  (have rb : Below w1.heap.size w1 w2 := bstep (by (repeat (first | with_reducible exact Below.refl _ _ | with_reducible assumption | with_reducible refine balloc ?_ _ | with_reducible refine bdrew ?_ | with_reducible refine below_drewN ?_ _ | with_reducible refine bset ?_ ?_ _ | with_reducible exact Nat.le_refl _ | with_reducible refine bsize ?_ | (dsimp only; refine Nat.le_trans ?_ (Nat.le_add_right _ _)) | with_reducible refine Nat.le_trans ?_ (Nat.le_add_right _ _) | (with_reducible refine bstep ?_ (by assumption))))) hb2); replace r1 := keepa rb rz r1; replace r2 := keepa rb rz r2; replace r3 := keepz rb rz r3; replace r4 := keepz rb rz r4; replace rz := Nat.lt_of_lt_of_le rz rb.size; clear rb
  (go_wp2_with fail; refine (HQ.out _).mono ?_; rintro e w3 ⟨rfl, hb3⟩; (have ha3 : Below w.heap.size w w3 := by (repeat (first | with_reducible exact Below.refl _ _ | with_reducible assumption | with_reducible refine balloc ?_ _ | with_reducible refine bdrew ?_ | with_reducible refine below_drewN ?_ _ | with_reducible refine bset ?_ ?_ _ | with_reducible exact Nat.le_refl _ | with_reducible refine bsize ?_ | (dsimp only; refine Nat.le_trans ?_ (Nat.le_add_right _ _)) | with_reducible refine Nat.le_trans ?_ (Nat.le_add_right _ _) | (with_reducible refine bstep ?_ (by assumption))))); obtain ⟨kc3, kf3, kz3, ky3, kx3, kv3, ku3⟩ := bcell hb3)
  (have rb : Below w2.heap.size w2 w3 := bstep (by (repeat (first | with_reducible exact Below.refl _ _ | with_reducible assumption | with_reducible refine balloc ?_ _ | with_reducible refine bdrew ?_ | with_reducible refine below_drewN ?_ _ | with_reducible refine bset ?_ ?_ _ | with_reducible exact Nat.le_refl _ | with_reducible refine bsize ?_ | (dsimp only; refine Nat.le_trans ?_ (Nat.le_add_right _ _)) | with_reducible refine Nat.le_trans ?_ (Nat.le_add_right _ _) | (with_reducible refine bstep ?_ (by assumption))))) hb3); replace r1 := keepa rb rz r1; replace r2 := keepa rb rz r2; replace r3 := keepz rb rz r3; replace r4 := keepz rb rz r4; replace rz := Nat.lt_of_lt_of_le rz rb.size; clear rb
  (go_wp2_with fail; refine (HC.out _).mono ?_; rintro e w4 ⟨rfl, hb4⟩; (have ha4 : Below w.heap.size w w4 := by (repeat (first | with_reducible exact Below.refl _ _ | with_reducible assumption | with_reducible refine balloc ?_ _ | with_reducible refine bdrew ?_ | with_reducible refine below_drewN ?_ _ | with_reducible refine bset ?_ ?_ _ | with_reducible exact Nat.le_refl _ | with_reducible refine bsize ?_ | (dsimp only; refine Nat.le_trans ?_ (Nat.le_add_right _ _)) | with_reducible refine Nat.le_trans ?_ (Nat.le_add_right _ _) | (with_reducible refine bstep ?_ (by assumption))))); obtain ⟨kc4, kf4, kz4, ky4, kx4, kv4, ku4⟩ := bcell hb4)
  (have rb : Below w3.heap.size w3 w4 := bstep (by (repeat (first | with_reducible exact Below.refl _ _ | with_reducible assumption | with_reducible refine balloc ?_ _ | with_reducible refine bdrew ?_ | with_reducible refine below_drewN ?_ _ | with_reducible refine bset ?_ ?_ _ | with_reducible exact Nat.le_refl _ | with_reducible refine bsize ?_ | (dsimp only; refine Nat.le_trans ?_ (Nat.le_add_right _ _)) | with_reducible refine Nat.le_trans ?_ (Nat.le_add_right _ _) | (with_reducible refine bstep ?_ (by assumption))))) hb4); replace r1 := keepa rb rz r1; replace r2 := keepa rb rz r2; replace r3 := keepz rb rz r3; replace r4 := keepz rb rz r4; replace rz := Nat.lt_of_lt_of_le rz rb.size; clear rb
  go_wp2
  refine bodyPost_ret (v := .tuple #[.agg #[.int .i64 X, .int .i64 Y], .bool B]) (by simp only [results, Try.results41]; go_simp) rfl ⟨rfl, ?_⟩
  (repeat (first | with_reducible exact Below.refl _ _ | with_reducible assumption | with_reducible refine balloc ?_ _ | with_reducible refine bdrew ?_ | with_reducible refine below_drewN ?_ _ | with_reducible refine bset ?_ ?_ _ | with_reducible exact Nat.le_refl _ | with_reducible refine bsize ?_ | (dsimp only; refine Nat.le_trans ?_ (Nat.le_add_right _ _)) | with_reducible refine Nat.le_trans ?_ (Nat.le_add_right _ _) | (with_reducible refine bstep ?_ (by assumption))))
end Go.Proofs.Ytkignanlkakdpaa
