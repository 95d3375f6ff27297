/- Several texts in one, in their order. -/
import Derived.Test.YtgmgifgbalcngaaPkM6a
import Derived.Deep.RegionHeld3
import Derived.Deep.DeepCutAuto
import Derived.Test.YtgmgifgbalcngaaAddUp
import Derived.Test.YtgmgifgbalcngaaCam1
import Derived.Test.YtgmgifgbalcngaaCmp
import Derived.Test.YtgmgifgbalcngaaMarkT
/- The first stop with the most, of the model. -/
namespace Go.Proofs.Ytgmgifgbalcngaa
open Go.ChangeShapes Go.WideShapes Go.ChangeAt Go.RowKit Go.Joins
set_option maxRecDepth 100000
set_option linter.unusedVariables false
set_option linter.unusedSimpArgs false

theorem whole_b2 (k : Int) (w : World) :
    Calls Try.prog 26 #[.int .i64 k] w fun e w' => e = .returned (.agg #[.int .i64 k, .int .i64 1]) ∧ Below w.heap.size w w' :=
  (whole_is_spec k w).mono fun _ _ ⟨h, h'⟩ => ⟨h, by subst h'; (repeat (first | with_reducible exact Below.refl _ _ | with_reducible assumption | with_reducible refine balloc ?_ _ | with_reducible refine bdrew ?_ | with_reducible refine below_drewN ?_ _ | with_reducible refine bset ?_ ?_ _ | with_reducible exact Nat.le_refl _ | with_reducible refine bsize ?_ | (dsimp only; refine Nat.le_trans ?_ (Nat.le_add_right _ _)) | with_reducible refine Nat.le_trans ?_ (Nat.le_add_right _ _) | (with_reducible refine bstep ?_ (by assumption))))⟩
theorem caStop_bp (L E n d r s : Int) (p : Int × Int) (ha : askB L E n d = true) (hp : plB p.1 p.2 = true) (hr : plB r s = true) (w : World) :
    Calls Try.prog 27 #[.agg #[.int .i64 L, .int .i64 E], .agg #[.int .i64 n, .int .i64 d], .agg #[.int .i64 p.1, .int .i64 p.2], .agg #[.int .i64 r, .int .i64 s]] w fun e w' => e = .returned (.tuple #[.agg #[.int .i64 (bpN L E n d r s p), .int .i64 (bpD L E n d r s p)], .bool (bpG L E n d r s p)]) ∧ Below w.heap.size w w' := by
  have hk : osK L E n d p.1 p.2 r s = decide (p.1 * s ≤ r * p.2) := by unfold osK; rw [ha, hp, hr]; rfl
  unfold bpN bpD bpG
  rw [hk]
  obtain ⟨i1, i2, i3, i4⟩ := askB_yes L E n d ha
  obtain ⟨j1, j2, j3, j4⟩ := camB_yes L E i1
  obtain ⟨x1, x2, x3, x4⟩ := am_of n d i2
  obtain ⟨i5, i6⟩ := plB_yes p.1 p.2 hp
  obtain ⟨y1, y2, y3, y4⟩ := am_of p.1 p.2 i5
  obtain ⟨i7, i8⟩ := plB_yes r s hr
  obtain ⟨v1, v2, v3, v4⟩ := am_of r s i7
  exact caStop_spec L E n d p.1 p.2 r s j1 j2 j3 j4 x1 x3 i3 i4 y1 y2 y3 i6 v1 v2 v3 i8 (am_of p.1 p.2 i5) (am_of r s i7) w
set_option maxHeartbeats 3200000 in
theorem bestStop_spec_some (L E n d r s : Int) (bn : -9223372036854775808 ≤ n ∧ n ≤ 9223372036854775807) (bd : -9223372036854775808 ≤ d ∧ d ≤ 9223372036854775807) (br : -9223372036854775808 ≤ r ∧ r ≤ 9223372036854775807) (bs : -9223372036854775808 ≤ s ∧ s ≤ 9223372036854775807) (a : Addr) (cap : Nat) (l : List (Int × Int)) (w : World) (hL : LiesG 2 fAmt w a cap l) :
    Calls Try.prog 7 #[.agg #[.int .i64 L, .int .i64 E], .agg #[.int .i64 n, .int .i64 d], .slice (some a) l.length cap, .agg #[.int .i64 r, .int .i64 s]] w fun e w' => e = .returned (.tuple #[.int .i64 (bpR L E n d r s l).i, .agg #[.int .i64 (bpR L E n d r s l).n, .int .i64 (bpR L E n d r s l).d], .bool (bpR L E n d r s l).f]) ∧ Below w.heap.size w w' := by
  have hlc := hL.hlc
  have hcap := hL.hcap
  have HA := Lib.hid (fun W => ask_spec L E n d bn bd W)
  have HC : Hid (∀ W, Below w.heap.size w W → Calls Try.prog 24 #[.slice (some a) l.length cap] W fun e w' => e = .returned (.bool (choB l)) ∧ Below W.heap.size W w') := Lib.hid (fun W h => ways_row _ l W (Or.inr ⟨a, cap, rfl, liesG_below hL h⟩))
  have HP := Lib.hid (fun W => place_spec r s br bs W)
  cases h1 : askB L E n d
  · rw [h1] at HA
    rw [show bpR L E n d r s l = ⟨0, 0, 0, false⟩ from bp_no L E n d r s l (by rw [h1]; rfl)]
    dsimp only
    go_enter Try.func7, Try.ntmps7
    (go_wp2_with fail; refine (HA.out _).mono ?_; rintro e w1 ⟨rfl, hb1⟩; have ha1 := hb1; obtain ⟨kc1, kf1, kz1, ky1, kx1, kv1, ku1⟩ := bcell hb1)
    have r1 : w1.cell? ⟨w.heap.size + 1 + 1 + 1, 0, none⟩ = some (.int .i64 0) := (by rw [kc1 (w.heap.size + 1 + 1 + 1) _ (by first | (simp; done) | (simp; omega))]; first | (simp; done) | (simp [go_sem]; done)); have r2 : w1.cell? ⟨w.heap.size + 1 + 1 + 1, 1, none⟩ = some (.int .i64 0) := (by rw [kc1 (w.heap.size + 1 + 1 + 1) _ (by first | (simp; done) | (simp; omega))]; first | (simp; done) | (simp [go_sem]; done)); have r3 : w1.frozen? ⟨w.heap.size + 1 + 1 + 1, 0, none⟩ = false := (by rw [kf1 (w.heap.size + 1 + 1 + 1) _ (by first | (simp; done) | (simp; omega))]; first | (simp; done) | (simp [go_sem]; done)); have r4 : w1.frozen? ⟨w.heap.size + 1 + 1 + 1, 1, none⟩ = false := (by rw [kf1 (w.heap.size + 1 + 1 + 1) _ (by first | (simp; done) | (simp; omega))]; first | (simp; done) | (simp [go_sem]; done)); have rz : w.heap.size + 1 + 1 + 1 < w1.heap.size := kz1 (w.heap.size + 1 + 1 + 1) (by first | (simp; done) | (simp; omega))
    go_wp2
    refine bodyPost_ret (v := .tuple #[.int .i64 0, .agg #[.int .i64 0, .int .i64 0], .bool false]) (by simp only [results, Try.results7]; go_simp) rfl ⟨rfl, ?_⟩
    (repeat (first | with_reducible exact Below.refl _ _ | with_reducible assumption | with_reducible refine balloc ?_ _ | with_reducible refine bdrew ?_ | with_reducible refine below_drewN ?_ _ | with_reducible refine bset ?_ ?_ _ | with_reducible exact Nat.le_refl _ | with_reducible refine bsize ?_ | (dsimp only; refine Nat.le_trans ?_ (Nat.le_add_right _ _)) | with_reducible refine Nat.le_trans ?_ (Nat.le_add_right _ _) | (with_reducible refine bstep ?_ (by assumption))))
  cases h2 : choB l
  · rw [h1] at HA
    rw [h2] at HC
    rw [show bpR L E n d r s l = ⟨0, 0, 0, false⟩ from by unfold bpR; rw [h2]; rfl]
    dsimp only
    clear HP h1 h2
    go_enter Try.func7, Try.ntmps7
    (go_wp2_with fail; refine (HA.out _).mono ?_; rintro e w1 ⟨rfl, hb1⟩; have ha1 := hb1; obtain ⟨kc1, kf1, kz1, ky1, kx1, kv1, ku1⟩ := bcell hb1)
    have r1 : w1.cell? ⟨w.heap.size + 1 + 1 + 1, 0, none⟩ = some (.int .i64 0) := (by rw [kc1 (w.heap.size + 1 + 1 + 1) _ (by first | (simp; done) | (simp; omega))]; first | (simp; done) | (simp [go_sem]; done)); have r2 : w1.cell? ⟨w.heap.size + 1 + 1 + 1, 1, none⟩ = some (.int .i64 0) := (by rw [kc1 (w.heap.size + 1 + 1 + 1) _ (by first | (simp; done) | (simp; omega))]; first | (simp; done) | (simp [go_sem]; done)); have r3 : w1.frozen? ⟨w.heap.size + 1 + 1 + 1, 0, none⟩ = false := (by rw [kf1 (w.heap.size + 1 + 1 + 1) _ (by first | (simp; done) | (simp; omega))]; first | (simp; done) | (simp [go_sem]; done)); have r4 : w1.frozen? ⟨w.heap.size + 1 + 1 + 1, 1, none⟩ = false := (by rw [kf1 (w.heap.size + 1 + 1 + 1) _ (by first | (simp; done) | (simp; omega))]; first | (simp; done) | (simp [go_sem]; done)); have rz : w.heap.size + 1 + 1 + 1 < w1.heap.size := kz1 (w.heap.size + 1 + 1 + 1) (by first | (simp; done) | (simp; omega))
    (go_wp2_with fail; refine (HC.out _ (by (repeat (first | with_reducible exact Below.refl _ _ | with_reducible assumption | with_reducible refine balloc ?_ _ | with_reducible refine bdrew ?_ | with_reducible refine below_drewN ?_ _ | with_reducible refine bset ?_ ?_ _ | with_reducible exact Nat.le_refl _ | with_reducible refine bsize ?_ | (dsimp only; refine Nat.le_trans ?_ (Nat.le_add_right _ _)) | with_reducible refine Nat.le_trans ?_ (Nat.le_add_right _ _) | (with_reducible refine bstep ?_ (by assumption)))))).mono ?_; rintro e w2 ⟨rfl, hb2⟩; (have ha2 : Below w.heap.size w w2 := by (repeat (first | with_reducible exact Below.refl _ _ | with_reducible assumption | with_reducible refine balloc ?_ _ | with_reducible refine bdrew ?_ | with_reducible refine below_drewN ?_ _ | with_reducible refine bset ?_ ?_ _ | with_reducible exact Nat.le_refl _ | with_reducible refine bsize ?_ | (dsimp only; refine Nat.le_trans ?_ (Nat.le_add_right _ _)) | with_reducible refine Nat.le_trans ?_ (Nat.le_add_right _ _) | (with_reducible refine bstep ?_ (by assumption))))); obtain ⟨kc2, kf2, kz2, ky2, kx2, kv2, ku2⟩ := bcell hb2)
    (have rb : Below w1.heap.size w1 w2 := bstep (by (repeat (first | with_reducible exact Below.refl _ _ | with_reducible assumption | with_reducible refine balloc ?_ _ | with_reducible refine bdrew ?_ | with_reducible refine below_drewN ?_ _ | with_reducible refine bset ?_ ?_ _ | with_reducible exact Nat.le_refl _ | with_reducible refine bsize ?_ | (dsimp only; refine Nat.le_trans ?_ (Nat.le_add_right _ _)) | with_reducible refine Nat.le_trans ?_ (Nat.le_add_right _ _) | (with_reducible refine bstep ?_ (by assumption))))) hb2); replace r1 := keepa rb rz r1; replace r2 := keepa rb rz r2; replace r3 := keepz rb rz r3; replace r4 := keepz rb rz r4; replace rz := Nat.lt_of_lt_of_le rz rb.size; clear rb
    go_wp2
    refine bodyPost_ret (v := .tuple #[.int .i64 0, .agg #[.int .i64 0, .int .i64 0], .bool false]) (by simp only [results, Try.results7]; go_simp) rfl ⟨rfl, ?_⟩
    (repeat (first | with_reducible exact Below.refl _ _ | with_reducible assumption | with_reducible refine balloc ?_ _ | with_reducible refine bdrew ?_ | with_reducible refine below_drewN ?_ _ | with_reducible refine bset ?_ ?_ _ | with_reducible exact Nat.le_refl _ | with_reducible refine bsize ?_ | (dsimp only; refine Nat.le_trans ?_ (Nat.le_add_right _ _)) | with_reducible refine Nat.le_trans ?_ (Nat.le_add_right _ _) | (with_reducible refine bstep ?_ (by assumption))))
  cases h3 : plB r s
  · rw [h1] at HA
    rw [h2] at HC
    rw [h3] at HP
    rw [show bpR L E n d r s l = ⟨0, 0, 0, false⟩ from bp_no L E n d r s l (by rw [h3]; simp)]
    dsimp only
    clear h1 h2 h3
    go_enter Try.func7, Try.ntmps7
    (go_wp2_with fail; refine (HA.out _).mono ?_; rintro e w1 ⟨rfl, hb1⟩; have ha1 := hb1; obtain ⟨kc1, kf1, kz1, ky1, kx1, kv1, ku1⟩ := bcell hb1)
    have r1 : w1.cell? ⟨w.heap.size + 1 + 1 + 1, 0, none⟩ = some (.int .i64 0) := (by rw [kc1 (w.heap.size + 1 + 1 + 1) _ (by first | (simp; done) | (simp; omega))]; first | (simp; done) | (simp [go_sem]; done)); have r2 : w1.cell? ⟨w.heap.size + 1 + 1 + 1, 1, none⟩ = some (.int .i64 0) := (by rw [kc1 (w.heap.size + 1 + 1 + 1) _ (by first | (simp; done) | (simp; omega))]; first | (simp; done) | (simp [go_sem]; done)); have r3 : w1.frozen? ⟨w.heap.size + 1 + 1 + 1, 0, none⟩ = false := (by rw [kf1 (w.heap.size + 1 + 1 + 1) _ (by first | (simp; done) | (simp; omega))]; first | (simp; done) | (simp [go_sem]; done)); have r4 : w1.frozen? ⟨w.heap.size + 1 + 1 + 1, 1, none⟩ = false := (by rw [kf1 (w.heap.size + 1 + 1 + 1) _ (by first | (simp; done) | (simp; omega))]; first | (simp; done) | (simp [go_sem]; done)); have rz : w.heap.size + 1 + 1 + 1 < w1.heap.size := kz1 (w.heap.size + 1 + 1 + 1) (by first | (simp; done) | (simp; omega))
    (go_wp2_with fail; refine (HC.out _ (by (repeat (first | with_reducible exact Below.refl _ _ | with_reducible assumption | with_reducible refine balloc ?_ _ | with_reducible refine bdrew ?_ | with_reducible refine below_drewN ?_ _ | with_reducible refine bset ?_ ?_ _ | with_reducible exact Nat.le_refl _ | with_reducible refine bsize ?_ | (dsimp only; refine Nat.le_trans ?_ (Nat.le_add_right _ _)) | with_reducible refine Nat.le_trans ?_ (Nat.le_add_right _ _) | (with_reducible refine bstep ?_ (by assumption)))))).mono ?_; rintro e w2 ⟨rfl, hb2⟩; (have ha2 : Below w.heap.size w w2 := by (repeat (first | with_reducible exact Below.refl _ _ | with_reducible assumption | with_reducible refine balloc ?_ _ | with_reducible refine bdrew ?_ | with_reducible refine below_drewN ?_ _ | with_reducible refine bset ?_ ?_ _ | with_reducible exact Nat.le_refl _ | with_reducible refine bsize ?_ | (dsimp only; refine Nat.le_trans ?_ (Nat.le_add_right _ _)) | with_reducible refine Nat.le_trans ?_ (Nat.le_add_right _ _) | (with_reducible refine bstep ?_ (by assumption))))); obtain ⟨kc2, kf2, kz2, ky2, kx2, kv2, ku2⟩ := bcell hb2)
    (have rb : Below w1.heap.size w1 w2 := bstep (by (repeat (first | with_reducible exact Below.refl _ _ | with_reducible assumption | with_reducible refine balloc ?_ _ | with_reducible refine bdrew ?_ | with_reducible refine below_drewN ?_ _ | with_reducible refine bset ?_ ?_ _ | with_reducible exact Nat.le_refl _ | with_reducible refine bsize ?_ | (dsimp only; refine Nat.le_trans ?_ (Nat.le_add_right _ _)) | with_reducible refine Nat.le_trans ?_ (Nat.le_add_right _ _) | (with_reducible refine bstep ?_ (by assumption))))) hb2); replace r1 := keepa rb rz r1; replace r2 := keepa rb rz r2; replace r3 := keepz rb rz r3; replace r4 := keepz rb rz r4; replace rz := Nat.lt_of_lt_of_le rz rb.size; clear rb
    (go_wp2_with fail; refine (HP.out _).mono ?_; rintro e w3 ⟨rfl, hb3⟩; (have ha3 : Below w.heap.size w w3 := by (repeat (first | with_reducible exact Below.refl _ _ | with_reducible assumption | with_reducible refine balloc ?_ _ | with_reducible refine bdrew ?_ | with_reducible refine below_drewN ?_ _ | with_reducible refine bset ?_ ?_ _ | with_reducible exact Nat.le_refl _ | with_reducible refine bsize ?_ | (dsimp only; refine Nat.le_trans ?_ (Nat.le_add_right _ _)) | with_reducible refine Nat.le_trans ?_ (Nat.le_add_right _ _) | (with_reducible refine bstep ?_ (by assumption))))); obtain ⟨kc3, kf3, kz3, ky3, kx3, kv3, ku3⟩ := bcell hb3)
    (have rb : Below w2.heap.size w2 w3 := bstep (by (repeat (first | with_reducible exact Below.refl _ _ | with_reducible assumption | with_reducible refine balloc ?_ _ | with_reducible refine bdrew ?_ | with_reducible refine below_drewN ?_ _ | with_reducible refine bset ?_ ?_ _ | with_reducible exact Nat.le_refl _ | with_reducible refine bsize ?_ | (dsimp only; refine Nat.le_trans ?_ (Nat.le_add_right _ _)) | with_reducible refine Nat.le_trans ?_ (Nat.le_add_right _ _) | (with_reducible refine bstep ?_ (by assumption))))) hb3); replace r1 := keepa rb rz r1; replace r2 := keepa rb rz r2; replace r3 := keepz rb rz r3; replace r4 := keepz rb rz r4; replace rz := Nat.lt_of_lt_of_le rz rb.size; clear rb
    go_wp2
    refine bodyPost_ret (v := .tuple #[.int .i64 0, .agg #[.int .i64 0, .int .i64 0], .bool false]) (by simp only [results, Try.results7]; go_simp) rfl ⟨rfl, ?_⟩
    (repeat (first | with_reducible exact Below.refl _ _ | with_reducible assumption | with_reducible refine balloc ?_ _ | with_reducible refine bdrew ?_ | with_reducible refine below_drewN ?_ _ | with_reducible refine bset ?_ ?_ _ | with_reducible exact Nat.le_refl _ | with_reducible refine bsize ?_ | (dsimp only; refine Nat.le_trans ?_ (Nat.le_add_right _ _)) | with_reducible refine Nat.le_trans ?_ (Nat.le_add_right _ _) | (with_reducible refine bstep ?_ (by assumption))))
  have hask := Lib.hid h1
  have hway := Lib.hid h3
  have hpl : Hid (∀ (j : Nat) (p : Int × Int), l[j]? = some p → plB p.1 p.2 = true) := Lib.hid (fun j p hp => by
    unfold choB at h2
    rw [Bool.and_eq_true] at h2
    exact (List.all_eq_true.1 h2.2) p (List.mem_of_getElem? hp))
  have h20 : l.length ≤ 20 := by unfold choB at h2; simp at h2; exact h2.1
  rw [show bpR L E n d r s l = bsR (bpN L E n d r s) (bpD L E n d r s) (bpG L E n d r s) l by unfold bpR; rw [if_pos h2]]
  rw [h1] at HA
  rw [h2] at HC
  rw [h3] at HP
  clear h1 h2 h3
  go_enter Try.func7, Try.ntmps7
  (go_wp2_with fail; refine (HA.out _).mono ?_; rintro e w1 ⟨rfl, hb1⟩; have ha1 := hb1; obtain ⟨kc1, kf1, kz1, ky1, kx1, kv1, ku1⟩ := bcell hb1)
  have c1 : w1.cell? ⟨w.heap.size, 0, none⟩ = some (.int .i64 L) := by rw [kc1 _ _ (by simp)]; simp [go_sem]
  have c2 : w1.cell? ⟨w.heap.size, 1, none⟩ = some (.int .i64 E) := by rw [kc1 _ _ (by simp)]; simp [go_sem]
  have c3 : w1.cell? ⟨w.heap.size + 1, 0, none⟩ = some (.int .i64 n) := by rw [kc1 _ _ (by simp)]; simp [go_sem]
  have c4 : w1.cell? ⟨w.heap.size + 1, 1, none⟩ = some (.int .i64 d) := by rw [kc1 _ _ (by simp)]; simp [go_sem]
  have c5 : w1.cell? ⟨w.heap.size + 1 + 1, 0, none⟩ = some (.int .i64 r) := by rw [kc1 _ _ (by simp)]; simp [go_sem]
  have c6 : w1.cell? ⟨w.heap.size + 1 + 1, 1, none⟩ = some (.int .i64 s) := by rw [kc1 _ _ (by simp)]; simp [go_sem]
  have r1 : w1.cell? ⟨w.heap.size + 1 + 1 + 1, 0, none⟩ = some (.int .i64 0) := (by rw [kc1 (w.heap.size + 1 + 1 + 1) _ (by first | (simp; done) | (simp; omega))]; first | (simp; done) | (simp [go_sem]; done)); have r2 : w1.cell? ⟨w.heap.size + 1 + 1 + 1, 1, none⟩ = some (.int .i64 0) := (by rw [kc1 (w.heap.size + 1 + 1 + 1) _ (by first | (simp; done) | (simp; omega))]; first | (simp; done) | (simp [go_sem]; done)); have r3 : w1.frozen? ⟨w.heap.size + 1 + 1 + 1, 0, none⟩ = false := (by rw [kf1 (w.heap.size + 1 + 1 + 1) _ (by first | (simp; done) | (simp; omega))]; first | (simp; done) | (simp [go_sem]; done)); have r4 : w1.frozen? ⟨w.heap.size + 1 + 1 + 1, 1, none⟩ = false := (by rw [kf1 (w.heap.size + 1 + 1 + 1) _ (by first | (simp; done) | (simp; omega))]; first | (simp; done) | (simp [go_sem]; done)); have rz : w.heap.size + 1 + 1 + 1 < w1.heap.size := kz1 (w.heap.size + 1 + 1 + 1) (by first | (simp; done) | (simp; omega))
  (go_wp2_with fail; refine (HC.out _ (by (repeat (first | with_reducible exact Below.refl _ _ | with_reducible assumption | with_reducible refine balloc ?_ _ | with_reducible refine bdrew ?_ | with_reducible refine below_drewN ?_ _ | with_reducible refine bset ?_ ?_ _ | with_reducible exact Nat.le_refl _ | with_reducible refine bsize ?_ | (dsimp only; refine Nat.le_trans ?_ (Nat.le_add_right _ _)) | with_reducible refine Nat.le_trans ?_ (Nat.le_add_right _ _) | (with_reducible refine bstep ?_ (by assumption)))))).mono ?_; rintro e w2 ⟨rfl, hb2⟩; (have ha2 : Below w.heap.size w w2 := by (repeat (first | with_reducible exact Below.refl _ _ | with_reducible assumption | with_reducible refine balloc ?_ _ | with_reducible refine bdrew ?_ | with_reducible refine below_drewN ?_ _ | with_reducible refine bset ?_ ?_ _ | with_reducible exact Nat.le_refl _ | with_reducible refine bsize ?_ | (dsimp only; refine Nat.le_trans ?_ (Nat.le_add_right _ _)) | with_reducible refine Nat.le_trans ?_ (Nat.le_add_right _ _) | (with_reducible refine bstep ?_ (by assumption))))); obtain ⟨kc2, kf2, kz2, ky2, kx2, kv2, ku2⟩ := bcell hb2)
  have f2 : Below w1.heap.size w1 w2 := bstep (by (repeat (first | with_reducible exact Below.refl _ _ | with_reducible assumption | with_reducible refine balloc ?_ _ | with_reducible refine bdrew ?_ | with_reducible refine below_drewN ?_ _ | with_reducible refine bset ?_ ?_ _ | with_reducible exact Nat.le_refl _ | with_reducible refine bsize ?_ | (dsimp only; refine Nat.le_trans ?_ (Nat.le_add_right _ _)) | with_reducible refine Nat.le_trans ?_ (Nat.le_add_right _ _) | (with_reducible refine bstep ?_ (by assumption))))) hb2
  replace c1 := keepa f2 (by omega) c1
  replace c2 := keepa f2 (by omega) c2
  replace c3 := keepa f2 (by omega) c3
  replace c4 := keepa f2 (by omega) c4
  replace c5 := keepa f2 (by omega) c5
  replace c6 := keepa f2 (by omega) c6
  (have rb : Below w1.heap.size w1 w2 := bstep (by (repeat (first | with_reducible exact Below.refl _ _ | with_reducible assumption | with_reducible refine balloc ?_ _ | with_reducible refine bdrew ?_ | with_reducible refine below_drewN ?_ _ | with_reducible refine bset ?_ ?_ _ | with_reducible exact Nat.le_refl _ | with_reducible refine bsize ?_ | (dsimp only; refine Nat.le_trans ?_ (Nat.le_add_right _ _)) | with_reducible refine Nat.le_trans ?_ (Nat.le_add_right _ _) | (with_reducible refine bstep ?_ (by assumption))))) hb2); replace r1 := keepa rb rz r1; replace r2 := keepa rb rz r2; replace r3 := keepz rb rz r3; replace r4 := keepz rb rz r4; replace rz := Nat.lt_of_lt_of_le rz rb.size; clear rb
  (go_wp2_with fail; refine (HP.out _).mono ?_; rintro e w3 ⟨rfl, hb3⟩; (have ha3 : Below w.heap.size w w3 := by (repeat (first | with_reducible exact Below.refl _ _ | with_reducible assumption | with_reducible refine balloc ?_ _ | with_reducible refine bdrew ?_ | with_reducible refine below_drewN ?_ _ | with_reducible refine bset ?_ ?_ _ | with_reducible exact Nat.le_refl _ | with_reducible refine bsize ?_ | (dsimp only; refine Nat.le_trans ?_ (Nat.le_add_right _ _)) | with_reducible refine Nat.le_trans ?_ (Nat.le_add_right _ _) | (with_reducible refine bstep ?_ (by assumption))))); obtain ⟨kc3, kf3, kz3, ky3, kx3, kv3, ku3⟩ := bcell hb3)
  have f3 : Below w2.heap.size w2 w3 := bstep (by (repeat (first | with_reducible exact Below.refl _ _ | with_reducible assumption | with_reducible refine balloc ?_ _ | with_reducible refine bdrew ?_ | with_reducible refine below_drewN ?_ _ | with_reducible refine bset ?_ ?_ _ | with_reducible exact Nat.le_refl _ | with_reducible refine bsize ?_ | (dsimp only; refine Nat.le_trans ?_ (Nat.le_add_right _ _)) | with_reducible refine Nat.le_trans ?_ (Nat.le_add_right _ _) | (with_reducible refine bstep ?_ (by assumption))))) hb3
  replace c1 := keepa f3 (by omega) c1
  replace c2 := keepa f3 (by omega) c2
  replace c3 := keepa f3 (by omega) c3
  replace c4 := keepa f3 (by omega) c4
  replace c5 := keepa f3 (by omega) c5
  replace c6 := keepa f3 (by omega) c6
  (have rb : Below w2.heap.size w2 w3 := bstep (by (repeat (first | with_reducible exact Below.refl _ _ | with_reducible assumption | with_reducible refine balloc ?_ _ | with_reducible refine bdrew ?_ | with_reducible refine below_drewN ?_ _ | with_reducible refine bset ?_ ?_ _ | with_reducible exact Nat.le_refl _ | with_reducible refine bsize ?_ | (dsimp only; refine Nat.le_trans ?_ (Nat.le_add_right _ _)) | with_reducible refine Nat.le_trans ?_ (Nat.le_add_right _ _) | (with_reducible refine bstep ?_ (by assumption))))) hb3); replace r1 := keepa rb rz r1; replace r2 := keepa rb rz r2; replace r3 := keepz rb rz r3; replace r4 := keepz rb rz r4; replace rz := Nat.lt_of_lt_of_le rz rb.size; clear rb
  (go_wp2_with fail; refine (whole_b2 0 _).mono ?_; rintro e w4 ⟨rfl, hb4⟩; (have ha4 : Below w.heap.size w w4 := by (repeat (first | with_reducible exact Below.refl _ _ | with_reducible assumption | with_reducible refine balloc ?_ _ | with_reducible refine bdrew ?_ | with_reducible refine below_drewN ?_ _ | with_reducible refine bset ?_ ?_ _ | with_reducible exact Nat.le_refl _ | with_reducible refine bsize ?_ | (dsimp only; refine Nat.le_trans ?_ (Nat.le_add_right _ _)) | with_reducible refine Nat.le_trans ?_ (Nat.le_add_right _ _) | (with_reducible refine bstep ?_ (by assumption))))); obtain ⟨kc4, kf4, kz4, ky4, kx4, kv4, ku4⟩ := bcell hb4)
  have f4 : Below w3.heap.size w3 w4 := bstep (by (repeat (first | with_reducible exact Below.refl _ _ | with_reducible assumption | with_reducible refine balloc ?_ _ | with_reducible refine bdrew ?_ | with_reducible refine below_drewN ?_ _ | with_reducible refine bset ?_ ?_ _ | with_reducible exact Nat.le_refl _ | with_reducible refine bsize ?_ | (dsimp only; refine Nat.le_trans ?_ (Nat.le_add_right _ _)) | with_reducible refine Nat.le_trans ?_ (Nat.le_add_right _ _) | (with_reducible refine bstep ?_ (by assumption))))) hb4
  replace c1 := keepa f4 (by omega) c1
  replace c2 := keepa f4 (by omega) c2
  replace c3 := keepa f4 (by omega) c3
  replace c4 := keepa f4 (by omega) c4
  replace c5 := keepa f4 (by omega) c5
  replace c6 := keepa f4 (by omega) c6
  (have rb : Below w3.heap.size w3 w4 := bstep (by (repeat (first | with_reducible exact Below.refl _ _ | with_reducible assumption | with_reducible refine balloc ?_ _ | with_reducible refine bdrew ?_ | with_reducible refine below_drewN ?_ _ | with_reducible refine bset ?_ ?_ _ | with_reducible exact Nat.le_refl _ | with_reducible refine bsize ?_ | (dsimp only; refine Nat.le_trans ?_ (Nat.le_add_right _ _)) | with_reducible refine Nat.le_trans ?_ (Nat.le_add_right _ _) | (with_reducible refine bstep ?_ (by assumption))))) hb4); replace r1 := keepa rb rz r1; replace r2 := keepa rb rz r2; replace r3 := keepz rb rz r3; replace r4 := keepz rb rz r4; replace rz := Nat.lt_of_lt_of_le rz rb.size; clear rb
  have hbw := ha4
  clear ha1 ha2 ha3 ha4 hb1 hb2 hb3 hb4 f2 f3 f4 kc1 kf1 kz1 ky1 kx1 kv1 ku1 kc2 kf2 kz2 ky2 kx2 kv2 ku2 kc3 kf3 kz3 ky3 kx3 kv3 ku3 kc4 kf4 kz4 ky4 kx4 kv4 ku4 HA HC HP
  go_wp2
  go_loopw [11, 35] (fun bs i wr => ∃ (k : Nat) (sb : BsV) (b mn md : Int), k ≤ l.length ∧ i = .int .i64 k ∧ bs = .int .i64 b ∧ Hid ((sb.f = true → b = sb.i ∧ mn = sb.n ∧ md = sb.d) ∧ (sb.f = false → b = -1)) ∧ Hid (BsOk sb) ∧ Hid (bsF (bpN L E n d r s) (bpD L E n d r s) (bpG L E n d r s) (l.drop k) k sb = bsR (bpN L E n d r s) (bpD L E n d r s) (bpG L E n d r s) l) ∧
      wr.cell? ⟨w4.heap.size, 0, none⟩ = some (.int .i64 mn) ∧ wr.cell? ⟨w4.heap.size, 1, none⟩ = some (.int .i64 md) ∧ wr.frozen? ⟨w4.heap.size, 0, none⟩ = false ∧ wr.frozen? ⟨w4.heap.size, 1, none⟩ = false ∧ w4.heap.size < wr.heap.size ∧ Below w4.heap.size w4 wr) (fun _ i _ => l.length - (intOf i).toNat)
  case atStart =>
    refine ⟨0, ⟨0, 0, 0, false⟩, -1, 0, 1, Nat.zero_le _, rfl, rfl, Lib.hid ⟨fun h => (by cases h), fun _ => rfl⟩, Lib.hid bs_start, Lib.hid rfl, by simp [go_sem], by simp [go_sem], by simp [go_sem], by simp [go_sem], by simp, ?_⟩
    (repeat (first | with_reducible exact Below.refl _ _ | with_reducible assumption | with_reducible refine balloc ?_ _ | with_reducible refine bdrew ?_ | with_reducible refine below_drewN ?_ _ | with_reducible refine bset ?_ ?_ _ | with_reducible exact Nat.le_refl _ | with_reducible refine bsize ?_ | (dsimp only; refine Nat.le_trans ?_ (Nat.le_add_right _ _)) | with_reducible refine Nat.le_trans ?_ (Nat.le_add_right _ _) | (with_reducible refine bstep ?_ (by assumption))))
  case round =>
    obtain ⟨k, sb, b, mn, md, hk, rfl, rfl, heq, hok, hfold, m1, m2, m3, m4, mz, hbel⟩ := hrel
    replace c1 := keepa hbel (by omega) c1
    replace c2 := keepa hbel (by omega) c2
    replace c3 := keepa hbel (by omega) c3
    replace c4 := keepa hbel (by omega) c4
    replace c5 := keepa hbel (by omega) c5
    replace c6 := keepa hbel (by omega) c6
    replace r1 := keepa hbel rz r1
    replace r2 := keepa hbel rz r2
    replace r3 := keepz hbel rz r3
    replace r4 := keepz hbel rz r4
    have hzB := hbel.size
    replace rz := Nat.lt_of_lt_of_le rz hzB
    by_cases hlt : k < l.length
    · obtain ⟨p, hp⟩ : ∃ p, l[k]? = some p := ⟨_, List.getElem?_eq_getElem hlt⟩
      have hL2 := liesG_below hL (bstep hbw hbel)
      have hc := hL2.hcell k p hp
      have e0 := hc 0 p.1 rfl
      rw [Nat.add_zero] at e0
      have e1 : wr.cell? ⟨(a.add (k * 2)).block, (a.add (k * 2)).off + 1, none⟩ = some (.int .i64 p.2) := by
        have h := hc 1 p.2 rfl
        rw [← Deep.add_add] at h
        exact h
      clear hc
      have hE := Lib.hid (fun W => caStop_bp L E n d r s p hask.out (hpl.out k p hp) hway.out W)
      have hgp : (bpG L E n d r s) p = true → amB ((bpN L E n d r s) p) ((bpD L E n d r s) p) = true := bp_am L E n d r s p
      have hnx := Lib.hid (bs_next hp hfold.out)
      have hok2 := Lib.hid (bs_step (bpN L E n d r s) (bpD L E n d r s) (bpG L E n d r s) hok.out (k := (k : Int)) (by omega) (fun h => hgp h))
      have i1 : (0 : Int) ≤ (k : Int) := by omega
      have i2 : (k : Int) < (l.length : Int) := by omega
      have z0 : w.heap.size < wr.heap.size := by omega
      have z1 : w.heap.size + 1 < wr.heap.size := by omega
      have z2 : w.heap.size + 1 + 1 < wr.heap.size := by omega
      have st0 : bsStep (bpN L E n d r s) (bpD L E n d r s) (bpG L E n d r s) sb k p = if (bpG L E n d r s) p = true then (if sb.f = false ∨ 0 < cmI ((bpN L E n d r s) p) ((bpD L E n d r s) p) sb.n sb.d then ⟨k, (bpN L E n d r s) p, (bpD L E n d r s) p, true⟩ else sb) else sb := rfl
      have hST := Lib.hid st0
      clear hL2 hfold hp st0
      obtain ⟨Np, hNp⟩ : ∃ x, (bpN L E n d r s) p = x := ⟨_, rfl⟩
      obtain ⟨Vp, hVp⟩ : ∃ x, (bpD L E n d r s) p = x := ⟨_, rfl⟩
      obtain ⟨Gp, hGp⟩ : ∃ x, (bpG L E n d r s) p = x := ⟨_, rfl⟩
      rw [hNp, hVp, hGp] at hgp
      rw [hNp, hVp, hGp] at hST
      rw [hNp, hVp, hGp] at hE
      clear hNp hVp hGp
      go_wp2_with fail
      refine (hE.out _).mono ?_
      rintro e w6 ⟨rfl, hb6⟩
      have f6 : Below wr.heap.size wr w6 := bstep (by (repeat (first | with_reducible exact Below.refl _ _ | with_reducible assumption | with_reducible refine balloc ?_ _ | with_reducible refine bdrew ?_ | with_reducible refine below_drewN ?_ _ | with_reducible refine bset ?_ ?_ _ | with_reducible exact Nat.le_refl _ | with_reducible refine bsize ?_ | (dsimp only; refine Nat.le_trans ?_ (Nat.le_add_right _ _)) | with_reducible refine Nat.le_trans ?_ (Nat.le_add_right _ _) | (with_reducible refine bstep ?_ (by assumption))))) hb6
      replace m1 := keepa f6 mz m1
      replace m2 := keepa f6 mz m2
      replace m3 := keepz f6 mz m3
      replace m4 := keepz f6 mz m4
      replace mz := Nat.lt_of_lt_of_le mz f6.size
      have hz6 := f6.size
      have hb := bstep hbel f6
      clear hb6 f6 hE hbel e0 e1
      obtain ⟨si, sn, sd, sf⟩ := sb
      dsimp only at *
      have t1 : (0 : Nat) = 0 := rfl
      have t2 : (0 : Nat) = 0 := rfl
      have t3 : (0 : Nat) = 0 := rfl
      cases Gp
      · have e := hST.out
        rw [if_neg (by decide)] at e
        rw [e] at hnx hok2
        clear e hST hok hgp
        all_goals go_wp2
        all_goals (try go_region)
        all_goals (try go_wp2)
        all_goals go_roundw
        all_goals first | (simp [intOf]; omega) | (refine ⟨k + 1, ⟨si, sn, sd, sf⟩, _, _, _, by omega, by go_num, rfl, heq, hok2, hnx, by simp [go_sem, m1, m2, mz, t1, t2, t3], by simp [go_sem, m1, m2, mz, t1, t2, t3], by simp [go_sem, m3, mz, t3], by simp [go_sem, m4, mz, t3], by first | omega | (simp; omega), ?_⟩; (repeat (first | with_reducible exact Below.refl _ _ | with_reducible assumption | with_reducible refine balloc ?_ _ | with_reducible refine bdrew ?_ | with_reducible refine below_drewN ?_ _ | with_reducible refine bset ?_ ?_ _ | with_reducible exact Nat.le_refl _ | with_reducible refine bsize ?_ | (dsimp only; refine Nat.le_trans ?_ (Nat.le_add_right _ _)) | with_reducible refine Nat.le_trans ?_ (Nat.le_add_right _ _) | (with_reducible refine bstep ?_ (by assumption)))))
      · have e := hST.out
        rw [if_pos rfl] at e
        rw [e] at hnx hok2
        have ham := hgp rfl
        clear e hST hgp
        cases sf
        · have hb1 := (heq.out).2 rfl
          subst hb1
          rw [if_pos (Or.inl rfl)] at hnx hok2
          clear heq hok
          all_goals go_wp2
          all_goals (try go_region)
          all_goals (try go_wp2)
          all_goals go_roundw
          all_goals first | (simp [intOf]; omega) | (refine ⟨k + 1, ⟨k, Np, Vp, true⟩, _, _, _, by omega, by go_num, rfl, Lib.hid ⟨fun _ => ⟨rfl, rfl, rfl⟩, fun h => (by cases h)⟩, hok2, hnx, by simp [go_sem, m1, m2, mz, t1, t2, t3], by simp [go_sem, m1, m2, mz, t1, t2, t3], by simp [go_sem, m3, mz, t3], by simp [go_sem, m4, mz, t3], by first | omega | (simp; omega), ?_⟩; (repeat (first | with_reducible exact Below.refl _ _ | with_reducible assumption | with_reducible refine balloc ?_ _ | with_reducible refine bdrew ?_ | with_reducible refine below_drewN ?_ _ | with_reducible refine bset ?_ ?_ _ | with_reducible exact Nat.le_refl _ | with_reducible refine bsize ?_ | (dsimp only; refine Nat.le_trans ?_ (Nat.le_add_right _ _)) | with_reducible refine Nat.le_trans ?_ (Nat.le_add_right _ _) | (with_reducible refine bstep ?_ (by assumption)))))
        · obtain ⟨rfl, rfl, rfl⟩ := (heq.out).1 rfl
          have hi0 := hok.out.i0
          dsimp only at hi0
          have HM := Lib.hid (fun W => cmp_cm Np Vp mn md ham (hok.out.am rfl) W)
          generalize cmI Np Vp mn md = C at *
          go_wp2_with fail
          refine (HM.out _).mono ?_
          rintro e w7 ⟨rfl, hb7⟩
          have f7 : Below w6.heap.size w6 w7 := bstep (by (repeat (first | with_reducible exact Below.refl _ _ | with_reducible assumption | with_reducible refine balloc ?_ _ | with_reducible refine bdrew ?_ | with_reducible refine below_drewN ?_ _ | with_reducible refine bset ?_ ?_ _ | with_reducible exact Nat.le_refl _ | with_reducible refine bsize ?_ | (dsimp only; refine Nat.le_trans ?_ (Nat.le_add_right _ _)) | with_reducible refine Nat.le_trans ?_ (Nat.le_add_right _ _) | (with_reducible refine bstep ?_ (by assumption))))) hb7
          obtain ⟨kc7, kf7, kz7, ky7, kx7, kv7, ku7⟩ := bcell hb7
          have t1 : w7.cell? ⟨w6.heap.size, 0, none⟩ = some (.int .i64 Np) := by rw [kc7 _ _ (by simp)]; simp [go_sem]
          have t2 : w7.cell? ⟨w6.heap.size, 1, none⟩ = some (.int .i64 Vp) := by rw [kc7 _ _ (by simp)]; simp [go_sem]
          have t3 := kz7 w6.heap.size (by simp)
          clear kc7 kf7 kz7 ky7 kx7 kv7 ku7 hb7 HM ham
          replace m1 := keepa f7 mz m1
          replace m2 := keepa f7 mz m2
          replace m3 := keepz f7 mz m3
          replace m4 := keepz f7 mz m4
          replace mz := Nat.lt_of_lt_of_le mz f7.size
          replace hb := bstep hb f7
          clear f7
          by_cases hC : 0 < C
          · rw [if_pos (Or.inr hC)] at hnx hok2
            clear heq hok
            all_goals go_wp2
            all_goals (try go_region)
            all_goals (try go_wp2)
            all_goals go_roundw
            all_goals first | (simp [intOf]; omega) | (refine ⟨k + 1, ⟨k, Np, Vp, true⟩, _, _, _, by omega, by go_num, rfl, Lib.hid ⟨fun _ => ⟨rfl, rfl, rfl⟩, fun h => (by cases h)⟩, hok2, hnx, by simp [go_sem, m1, m2, mz, t1, t2, t3], by simp [go_sem, m1, m2, mz, t1, t2, t3], by simp [go_sem, m3, mz, t3], by simp [go_sem, m4, mz, t3], by first | omega | (simp; omega), ?_⟩; (repeat (first | with_reducible exact Below.refl _ _ | with_reducible assumption | with_reducible refine balloc ?_ _ | with_reducible refine bdrew ?_ | with_reducible refine below_drewN ?_ _ | with_reducible refine bset ?_ ?_ _ | with_reducible exact Nat.le_refl _ | with_reducible refine bsize ?_ | (dsimp only; refine Nat.le_trans ?_ (Nat.le_add_right _ _)) | with_reducible refine Nat.le_trans ?_ (Nat.le_add_right _ _) | (with_reducible refine bstep ?_ (by assumption)))))
          · rw [if_neg (by rintro (h | h); exact absurd h (by decide); exact hC h)] at hnx hok2
            clear hok
            all_goals go_wp2
            all_goals (try go_region)
            all_goals (try go_wp2)
            all_goals go_roundw
            all_goals first | (simp [intOf]; omega) | (refine ⟨k + 1, ⟨b, mn, md, true⟩, _, _, _, by omega, by go_num, rfl, Lib.hid ⟨fun _ => ⟨rfl, rfl, rfl⟩, fun h => (by cases h)⟩, hok2, hnx, by simp [go_sem, m1, m2, mz, t1, t2, t3], by simp [go_sem, m1, m2, mz, t1, t2, t3], by simp [go_sem, m3, mz, t3], by simp [go_sem, m4, mz, t3], by first | omega | (simp; omega), ?_⟩; (repeat (first | with_reducible exact Below.refl _ _ | with_reducible assumption | with_reducible refine balloc ?_ _ | with_reducible refine bdrew ?_ | with_reducible refine below_drewN ?_ _ | with_reducible refine bset ?_ ?_ _ | with_reducible exact Nat.le_refl _ | with_reducible refine bsize ?_ | (dsimp only; refine Nat.le_trans ?_ (Nat.le_add_right _ _)) | with_reducible refine Nat.le_trans ?_ (Nat.le_add_right _ _) | (with_reducible refine bstep ?_ (by assumption)))))
    · have hk' : k = l.length := by omega
      subst hk'
      have hR := Lib.hid (bs_end hfold.out)
      clear hfold
      obtain ⟨si, sn, sd, sf⟩ := sb
      dsimp only at *
      have hbz := bstep hbw hbel
      cases sf
      · have hb1 := (heq.out).2 rfl
        subst hb1
        have hn0 := hok.out.no rfl
        injection hn0 with q1 q2 q3 q4
        subst q1 q2 q3
        clear heq hok
        go_wp2
        all_goals (try go_region)
        all_goals (try go_wp2)
        all_goals refine bodyPost_ret (v := .tuple #[.int .i64 0, .agg #[.int .i64 0, .int .i64 0], .bool false]) (by simp only [results, Try.results7]; go_simp) rfl ⟨by rw [← hR.out], ?_⟩
        all_goals (repeat (first | with_reducible exact Below.refl _ _ | with_reducible assumption | with_reducible refine balloc ?_ _ | with_reducible refine bdrew ?_ | with_reducible refine below_drewN ?_ _ | with_reducible refine bset ?_ ?_ _ | with_reducible exact Nat.le_refl _ | with_reducible refine bsize ?_ | (dsimp only; refine Nat.le_trans ?_ (Nat.le_add_right _ _)) | with_reducible refine Nat.le_trans ?_ (Nat.le_add_right _ _) | (with_reducible refine bstep ?_ (by assumption))))
      · obtain ⟨rfl, rfl, rfl⟩ := (heq.out).1 rfl
        have hi0 := hok.out.i0
        dsimp only at hi0
        clear heq hok
        go_wp2
        all_goals (try go_region)
        all_goals (try go_wp2)
        all_goals refine bodyPost_ret (v := .tuple #[.int .i64 b, .agg #[.int .i64 mn, .int .i64 md], .bool true]) (by simp only [results, Try.results7]; go_simp) rfl ⟨by rw [← hR.out], ?_⟩
        all_goals (repeat (first | with_reducible exact Below.refl _ _ | with_reducible assumption | with_reducible refine balloc ?_ _ | with_reducible refine bdrew ?_ | with_reducible refine below_drewN ?_ _ | with_reducible refine bset ?_ ?_ _ | with_reducible exact Nat.le_refl _ | with_reducible refine bsize ?_ | (dsimp only; refine Nat.le_trans ?_ (Nat.le_add_right _ _)) | with_reducible refine Nat.le_trans ?_ (Nat.le_add_right _ _) | (with_reducible refine bstep ?_ (by assumption))))
theorem bestStop_spec_nil (L E n d r s : Int) (bn : -9223372036854775808 ≤ n ∧ n ≤ 9223372036854775807) (bd : -9223372036854775808 ≤ d ∧ d ≤ 9223372036854775807) (br : -9223372036854775808 ≤ r ∧ r ≤ 9223372036854775807) (bs : -9223372036854775808 ≤ s ∧ s ≤ 9223372036854775807) (w : World) :
    Calls Try.prog 7 #[.agg #[.int .i64 L, .int .i64 E], .agg #[.int .i64 n, .int .i64 d], .slice none 0 0, .agg #[.int .i64 r, .int .i64 s]] w fun e w' => e = .returned (.tuple #[.int .i64 0, .agg #[.int .i64 0, .int .i64 0], .bool false]) ∧ Below w.heap.size w w' := by
  have HA := Lib.hid (fun W => ask_spec L E n d bn bd W)
  have HP := Lib.hid (fun W => place_spec r s br bs W)
  cases h1 : askB L E n d
  · rw [h1] at HA
    clear h1
    go_enter Try.func7, Try.ntmps7
    (go_wp2_with fail; refine (HA.out _).mono ?_; rintro e w1 ⟨rfl, hb1⟩; have ha1 := hb1; obtain ⟨kc1, kf1, kz1, ky1, kx1, kv1, ku1⟩ := bcell hb1)
    have r1 : w1.cell? ⟨w.heap.size + 1 + 1 + 1, 0, none⟩ = some (.int .i64 0) := (by rw [kc1 (w.heap.size + 1 + 1 + 1) _ (by first | (simp; done) | (simp; omega))]; first | (simp; done) | (simp [go_sem]; done)); have r2 : w1.cell? ⟨w.heap.size + 1 + 1 + 1, 1, none⟩ = some (.int .i64 0) := (by rw [kc1 (w.heap.size + 1 + 1 + 1) _ (by first | (simp; done) | (simp; omega))]; first | (simp; done) | (simp [go_sem]; done)); have r3 : w1.frozen? ⟨w.heap.size + 1 + 1 + 1, 0, none⟩ = false := (by rw [kf1 (w.heap.size + 1 + 1 + 1) _ (by first | (simp; done) | (simp; omega))]; first | (simp; done) | (simp [go_sem]; done)); have r4 : w1.frozen? ⟨w.heap.size + 1 + 1 + 1, 1, none⟩ = false := (by rw [kf1 (w.heap.size + 1 + 1 + 1) _ (by first | (simp; done) | (simp; omega))]; first | (simp; done) | (simp [go_sem]; done)); have rz : w.heap.size + 1 + 1 + 1 < w1.heap.size := kz1 (w.heap.size + 1 + 1 + 1) (by first | (simp; done) | (simp; omega))
    go_wp2
    refine bodyPost_ret (v := .tuple #[.int .i64 0, .agg #[.int .i64 0, .int .i64 0], .bool false]) (by simp only [results, Try.results7]; go_simp) rfl ⟨rfl, ?_⟩
    (repeat (first | with_reducible exact Below.refl _ _ | with_reducible assumption | with_reducible refine balloc ?_ _ | with_reducible refine bdrew ?_ | with_reducible refine below_drewN ?_ _ | with_reducible refine bset ?_ ?_ _ | with_reducible exact Nat.le_refl _ | with_reducible refine bsize ?_ | (dsimp only; refine Nat.le_trans ?_ (Nat.le_add_right _ _)) | with_reducible refine Nat.le_trans ?_ (Nat.le_add_right _ _) | (with_reducible refine bstep ?_ (by assumption))))
  cases h3 : plB r s
  all_goals
    rw [h1] at HA
    rw [h3] at HP
    clear h1 h3
    go_enter Try.func7, Try.ntmps7
    (go_wp2_with fail; refine (HA.out _).mono ?_; rintro e w1 ⟨rfl, hb1⟩; have ha1 := hb1; obtain ⟨kc1, kf1, kz1, ky1, kx1, kv1, ku1⟩ := bcell hb1)
    have r1 : w1.cell? ⟨w.heap.size + 1 + 1 + 1, 0, none⟩ = some (.int .i64 0) := (by rw [kc1 (w.heap.size + 1 + 1 + 1) _ (by first | (simp; done) | (simp; omega))]; first | (simp; done) | (simp [go_sem]; done)); have r2 : w1.cell? ⟨w.heap.size + 1 + 1 + 1, 1, none⟩ = some (.int .i64 0) := (by rw [kc1 (w.heap.size + 1 + 1 + 1) _ (by first | (simp; done) | (simp; omega))]; first | (simp; done) | (simp [go_sem]; done)); have r3 : w1.frozen? ⟨w.heap.size + 1 + 1 + 1, 0, none⟩ = false := (by rw [kf1 (w.heap.size + 1 + 1 + 1) _ (by first | (simp; done) | (simp; omega))]; first | (simp; done) | (simp [go_sem]; done)); have r4 : w1.frozen? ⟨w.heap.size + 1 + 1 + 1, 1, none⟩ = false := (by rw [kf1 (w.heap.size + 1 + 1 + 1) _ (by first | (simp; done) | (simp; omega))]; first | (simp; done) | (simp [go_sem]; done)); have rz : w.heap.size + 1 + 1 + 1 < w1.heap.size := kz1 (w.heap.size + 1 + 1 + 1) (by first | (simp; done) | (simp; omega))
    (go_wp2_with fail; refine (ways_nil _).mono ?_; rintro e w2 ⟨rfl, hb2⟩; (have ha2 : Below w.heap.size w w2 := by (repeat (first | with_reducible exact Below.refl _ _ | with_reducible assumption | with_reducible refine balloc ?_ _ | with_reducible refine bdrew ?_ | with_reducible refine below_drewN ?_ _ | with_reducible refine bset ?_ ?_ _ | with_reducible exact Nat.le_refl _ | with_reducible refine bsize ?_ | (dsimp only; refine Nat.le_trans ?_ (Nat.le_add_right _ _)) | with_reducible refine Nat.le_trans ?_ (Nat.le_add_right _ _) | (with_reducible refine bstep ?_ (by assumption))))); obtain ⟨kc2, kf2, kz2, ky2, kx2, kv2, ku2⟩ := bcell hb2)
    (have rb : Below w1.heap.size w1 w2 := bstep (by (repeat (first | with_reducible exact Below.refl _ _ | with_reducible assumption | with_reducible refine balloc ?_ _ | with_reducible refine bdrew ?_ | with_reducible refine below_drewN ?_ _ | with_reducible refine bset ?_ ?_ _ | with_reducible exact Nat.le_refl _ | with_reducible refine bsize ?_ | (dsimp only; refine Nat.le_trans ?_ (Nat.le_add_right _ _)) | with_reducible refine Nat.le_trans ?_ (Nat.le_add_right _ _) | (with_reducible refine bstep ?_ (by assumption))))) hb2); replace r1 := keepa rb rz r1; replace r2 := keepa rb rz r2; replace r3 := keepz rb rz r3; replace r4 := keepz rb rz r4; replace rz := Nat.lt_of_lt_of_le rz rb.size; clear rb
    (go_wp2_with fail; refine (HP.out _).mono ?_; rintro e w3 ⟨rfl, hb3⟩; (have ha3 : Below w.heap.size w w3 := by (repeat (first | with_reducible exact Below.refl _ _ | with_reducible assumption | with_reducible refine balloc ?_ _ | with_reducible refine bdrew ?_ | with_reducible refine below_drewN ?_ _ | with_reducible refine bset ?_ ?_ _ | with_reducible exact Nat.le_refl _ | with_reducible refine bsize ?_ | (dsimp only; refine Nat.le_trans ?_ (Nat.le_add_right _ _)) | with_reducible refine Nat.le_trans ?_ (Nat.le_add_right _ _) | (with_reducible refine bstep ?_ (by assumption))))); obtain ⟨kc3, kf3, kz3, ky3, kx3, kv3, ku3⟩ := bcell hb3)
    (have rb : Below w2.heap.size w2 w3 := bstep (by (repeat (first | with_reducible exact Below.refl _ _ | with_reducible assumption | with_reducible refine balloc ?_ _ | with_reducible refine bdrew ?_ | with_reducible refine below_drewN ?_ _ | with_reducible refine bset ?_ ?_ _ | with_reducible exact Nat.le_refl _ | with_reducible refine bsize ?_ | (dsimp only; refine Nat.le_trans ?_ (Nat.le_add_right _ _)) | with_reducible refine Nat.le_trans ?_ (Nat.le_add_right _ _) | (with_reducible refine bstep ?_ (by assumption))))) hb3); replace r1 := keepa rb rz r1; replace r2 := keepa rb rz r2; replace r3 := keepz rb rz r3; replace r4 := keepz rb rz r4; replace rz := Nat.lt_of_lt_of_le rz rb.size; clear rb
  · go_wp2
    refine bodyPost_ret (v := .tuple #[.int .i64 0, .agg #[.int .i64 0, .int .i64 0], .bool false]) (by simp only [results, Try.results7]; go_simp) rfl ⟨rfl, ?_⟩
    (repeat (first | with_reducible exact Below.refl _ _ | with_reducible assumption | with_reducible refine balloc ?_ _ | with_reducible refine bdrew ?_ | with_reducible refine below_drewN ?_ _ | with_reducible refine bset ?_ ?_ _ | with_reducible exact Nat.le_refl _ | with_reducible refine bsize ?_ | (dsimp only; refine Nat.le_trans ?_ (Nat.le_add_right _ _)) | with_reducible refine Nat.le_trans ?_ (Nat.le_add_right _ _) | (with_reducible refine bstep ?_ (by assumption))))
  · (go_wp2_with fail; refine (whole_b2 0 _).mono ?_; rintro e w4 ⟨rfl, hb4⟩; (have ha4 : Below w.heap.size w w4 := by (repeat (first | with_reducible exact Below.refl _ _ | with_reducible assumption | with_reducible refine balloc ?_ _ | with_reducible refine bdrew ?_ | with_reducible refine below_drewN ?_ _ | with_reducible refine bset ?_ ?_ _ | with_reducible exact Nat.le_refl _ | with_reducible refine bsize ?_ | (dsimp only; refine Nat.le_trans ?_ (Nat.le_add_right _ _)) | with_reducible refine Nat.le_trans ?_ (Nat.le_add_right _ _) | (with_reducible refine bstep ?_ (by assumption))))); obtain ⟨kc4, kf4, kz4, ky4, kx4, kv4, ku4⟩ := bcell hb4)
    (have rb : Below w3.heap.size w3 w4 := bstep (by (repeat (first | with_reducible exact Below.refl _ _ | with_reducible assumption | with_reducible refine balloc ?_ _ | with_reducible refine bdrew ?_ | with_reducible refine below_drewN ?_ _ | with_reducible refine bset ?_ ?_ _ | with_reducible exact Nat.le_refl _ | with_reducible refine bsize ?_ | (dsimp only; refine Nat.le_trans ?_ (Nat.le_add_right _ _)) | with_reducible refine Nat.le_trans ?_ (Nat.le_add_right _ _) | (with_reducible refine bstep ?_ (by assumption))))) hb4); replace r1 := keepa rb rz r1; replace r2 := keepa rb rz r2; replace r3 := keepz rb rz r3; replace r4 := keepz rb rz r4; replace rz := Nat.lt_of_lt_of_le rz rb.size; clear rb
    go_wp2
    go_loopw [11, 35] (fun bs i wr => bs = .int .i64 (-1) ∧ i = .int .i64 0 ∧ Below w4.heap.size w4 wr) (fun _ _ _ => 0)
    case atStart => exact ⟨rfl, rfl, by (repeat (first | with_reducible exact Below.refl _ _ | with_reducible assumption | with_reducible refine balloc ?_ _ | with_reducible refine bdrew ?_ | with_reducible refine below_drewN ?_ _ | with_reducible refine bset ?_ ?_ _ | with_reducible exact Nat.le_refl _ | with_reducible refine bsize ?_ | (dsimp only; refine Nat.le_trans ?_ (Nat.le_add_right _ _)) | with_reducible refine Nat.le_trans ?_ (Nat.le_add_right _ _) | (with_reducible refine bstep ?_ (by assumption))))⟩
    case round =>
      obtain ⟨rfl, rfl, hbel⟩ := hrel
      replace r1 := keepa hbel rz r1
      replace r2 := keepa hbel rz r2
      replace r3 := keepz hbel rz r3
      replace r4 := keepz hbel rz r4
      replace rz := Nat.lt_of_lt_of_le rz hbel.size
      have hz := bstep ha4 hbel
      go_wp2
      refine bodyPost_ret (v := .tuple #[.int .i64 0, .agg #[.int .i64 0, .int .i64 0], .bool false]) (by simp only [results, Try.results7]; go_simp) rfl ⟨rfl, ?_⟩
      (repeat (first | with_reducible exact Below.refl _ _ | with_reducible assumption | with_reducible refine balloc ?_ _ | with_reducible refine bdrew ?_ | with_reducible refine below_drewN ?_ _ | with_reducible refine bset ?_ ?_ _ | with_reducible exact Nat.le_refl _ | with_reducible refine bsize ?_ | (dsimp only; refine Nat.le_trans ?_ (Nat.le_add_right _ _)) | with_reducible refine Nat.le_trans ?_ (Nat.le_add_right _ _) | (with_reducible refine bstep ?_ (by assumption))))
theorem bestStop_spec (L E n d r s : Int) (bn : -9223372036854775808 ≤ n ∧ n ≤ 9223372036854775807) (bd : -9223372036854775808 ≤ d ∧ d ≤ 9223372036854775807) (br : -9223372036854775808 ≤ r ∧ r ≤ 9223372036854775807) (bs : -9223372036854775808 ≤ s ∧ s ≤ 9223372036854775807) (v : Value) (l : List (Int × Int)) (w : World) (h : RowG 2 fAmt w v l) :
    Calls Try.prog 7 #[.agg #[.int .i64 L, .int .i64 E], .agg #[.int .i64 n, .int .i64 d], v, .agg #[.int .i64 r, .int .i64 s]] w fun e w' => e = .returned (.tuple #[.int .i64 (bpR L E n d r s l).i, .agg #[.int .i64 (bpR L E n d r s l).n, .int .i64 (bpR L E n d r s l).d], .bool (bpR L E n d r s l).f]) ∧ Below w.heap.size w w' := by
  rcases h with ⟨rfl, rfl⟩ | ⟨a, cap, rfl, hL⟩
  · have e : bpR L E n d r s [] = ⟨0, 0, 0, false⟩ := by unfold bpR; split <;> rfl
    rw [e]
    exact bestStop_spec_nil L E n d r s bn bd br bs w
  · exact bestStop_spec_some L E n d r s bn bd br bs a cap l w hL
end Go.Proofs.Ytgmgifgbalcngaa

/- Lists of markets: at most 20, all of them valid (the program). -/
namespace Go.Proofs.Ytgmgifgbalcngaa
open Go.ChangeShapes Go.WideShapes Go.ChangeAt Go.RowKit Go.Joins
set_option maxRecDepth 100000
set_option linter.unusedVariables false
set_option linter.unusedSimpArgs false

def chmP (p : MarketV) : Bool := mktB p.a p.b p.n p.d
def chmB (l : List MarketV) : Bool := decide (l.length ≤ 20) && l.all chmP
theorem chm_clo (x y z u : Int) (b0 : -9223372036854775808 ≤ x ∧ x ≤ 9223372036854775807) (b1 : -9223372036854775808 ≤ y ∧ y ≤ 9223372036854775807) (b2 : -9223372036854775808 ≤ z ∧ z ≤ 9223372036854775807) (b3 : -9223372036854775808 ≤ u ∧ u ≤ 9223372036854775807) (g : Nat) (w : World) (hc : w.cell? ⟨g, 0, none⟩ = some (.func (.func 38) #[] #[])) :
    Calls Try.prog 61 #[.agg #[.int .i64 x, .int .i64 y, .int .i64 z, .int .i64 u], .pointer (some ⟨g, 0, none⟩)] w fun e w' => e = .returned (.bool (!mktB x y z u)) ∧ Below w.heap.size w w' := by
  have hg : g < w.heap.size := cell_lt hc
  have HP := Lib.hid (fun W => mkt_impl x y z u b0 b1 b2 b3 W)
  generalize mktB x y z u = B at *
  go_enter Try.func61, Try.ntmps61
  go_wp2_with fail
  refine (HP.out _).mono ?_
  rintro e w1 ⟨rfl, hb1⟩
  go_wp2
  go_ret
  refine ⟨rfl, ?_⟩
  (repeat (first | with_reducible exact Below.refl _ _ | with_reducible assumption | with_reducible refine balloc ?_ _ | with_reducible refine bdrew ?_ | with_reducible refine below_drewN ?_ _ | with_reducible refine bset ?_ ?_ _ | with_reducible exact Nat.le_refl _ | with_reducible refine bsize ?_ | (dsimp only; refine Nat.le_trans ?_ (Nat.le_add_right _ _)) | with_reducible refine Nat.le_trans ?_ (Nat.le_add_right _ _) | (with_reducible refine bstep ?_ (by assumption))))
set_option maxHeartbeats 800000 in
theorem chm_ix (a : Addr) (cap : Nat) (l : List MarketV) (g : Nat) (w : World) (hL : LiesG 4 fMarket w a cap l) (hcl : w.cell? ⟨g, 0, none⟩ = some (.func (.func 38) #[] #[])) :
    Calls Try.prog 77 #[.slice (some a) l.length cap, .func (.func 61) #[] #[.pointer (some ⟨g, 0, none⟩)]] w fun e w' => ∃ i : Int, e = .returned (.int .i64 i) ∧ Hid (decide (0 ≤ i) = !l.all chmP) ∧ Below w.heap.size w w' := by
  have hlc := hL.hlc
  have hcap := hL.hcap
  have hg : g < w.heap.size := cell_lt hcl
  go_enter Try.func77, Try.ntmps77
  go_wp2
  go_loopw [8] (fun i wr => ∃ k : Nat, k ≤ l.length ∧ i = .int .i64 k ∧ Hid (∀ j p, j < k → l[j]? = some p → chmP p = true) ∧ Below w.heap.size w wr) (fun i _ => l.length - (intOf i).toNat)
  case atStart => exact ⟨0, Nat.zero_le _, rfl, Lib.hid (fun j p h _ => absurd h (by omega)), Below.refl _ _⟩
  case round =>
    obtain ⟨k, hk, rfl, hall, hbel⟩ := hrel
    by_cases hlt : k < l.length
    · obtain ⟨p, hp⟩ : ∃ p, l[k]? = some p := ⟨_, List.getElem?_eq_getElem hlt⟩
      have hL2 := liesG_below hL hbel
      have hc := hL2.hcell k p hp
      have e0 := hc 0 p.a rfl
      rw [Nat.add_zero] at e0
      have e1 : wr.cell? ⟨(a.add (k * 4)).block, (a.add (k * 4)).off + 1, none⟩ = some (.int .i64 p.b) := by
        have h := hc 1 p.b rfl
        rw [← Deep.add_add] at h
        exact h
      have e2 : wr.cell? ⟨(a.add (k * 4)).block, (a.add (k * 4)).off + 2, none⟩ = some (.int .i64 p.n) := by
        have h := hc 2 p.n rfl
        rw [← Deep.add_add] at h
        exact h
      have e3 : wr.cell? ⟨(a.add (k * 4)).block, (a.add (k * 4)).off + 3, none⟩ = some (.int .i64 p.d) := by
        have h := hc 3 p.d rfl
        rw [← Deep.add_add] at h
        exact h
      clear hc
      have hbd := hL.hbd p (List.mem_of_getElem? hp)
      have b0 : -9223372036854775808 ≤ p.a ∧ p.a ≤ 9223372036854775807 := hbd p.a (by simp [fMarket])
      have b1 : -9223372036854775808 ≤ p.b ∧ p.b ≤ 9223372036854775807 := hbd p.b (by simp [fMarket])
      have b2 : -9223372036854775808 ≤ p.n ∧ p.n ≤ 9223372036854775807 := hbd p.n (by simp [fMarket])
      have b3 : -9223372036854775808 ≤ p.d ∧ p.d ≤ 9223372036854775807 := hbd p.d (by simp [fMarket])
      clear hbd
      have hcw := keepa hbel hg hcl
      have HC := Lib.hid (fun W h => chm_clo p.a p.b p.n p.d b0 b1 b2 b3 g W h)
      cases hP : mktB p.a p.b p.n p.d
      · have hno : Hid (l.all chmP = false) := by
          rw [Bool.eq_false_iff]
          intro h
          have := (List.all_eq_true.1 h) p (List.mem_of_getElem? hp)
          unfold chmP at this
          rw [hP] at this
          cases this
        rw [hP] at HC
        have HP2 := Lib.hid hP
        clear hL2 hP hall
        go_wp2_with fail
        refine (HC.out _ (by simpa [go_sem] using hcw)).mono ?_
        rintro e w2 ⟨rfl, hb2⟩
        go_wp2
        go_ret
        refine ⟨_, rfl, ?_, ?_⟩
        · have hno := hno.out
          exact Lib.hid (by rw [hno]; simp)
        · (repeat (first | with_reducible exact Below.refl _ _ | with_reducible assumption | with_reducible refine balloc ?_ _ | with_reducible refine bdrew ?_ | with_reducible refine below_drewN ?_ _ | with_reducible refine bset ?_ ?_ _ | with_reducible exact Nat.le_refl _ | with_reducible refine bsize ?_ | (dsimp only; refine Nat.le_trans ?_ (Nat.le_add_right _ _)) | with_reducible refine Nat.le_trans ?_ (Nat.le_add_right _ _) | (with_reducible refine bstep ?_ (by assumption))))
      · have hnext : Hid (∀ j p, j < k + 1 → l[j]? = some p → chmP p = true) := by
          have h := hall.out
          refine Lib.hid (fun j q hj hq => ?_)
          by_cases e : j = k
          · subst e
            rw [hp] at hq
            injection hq with hq
            subst hq
            exact hP
          · exact h j q (by omega) hq
        rw [hP] at HC
        clear hL2 hP hall
        go_wp2_with fail
        refine (HC.out _ (by simpa [go_sem] using hcw)).mono ?_
        rintro e w2 ⟨rfl, hb2⟩
        go_wp2
        go_roundw
        case rel => exact ⟨k + 1, by omega, by go_num, hnext, by (repeat (first | with_reducible exact Below.refl _ _ | with_reducible assumption | with_reducible refine balloc ?_ _ | with_reducible refine bdrew ?_ | with_reducible refine below_drewN ?_ _ | with_reducible refine bset ?_ ?_ _ | with_reducible exact Nat.le_refl _ | with_reducible refine bsize ?_ | (dsimp only; refine Nat.le_trans ?_ (Nat.le_add_right _ _)) | with_reducible refine Nat.le_trans ?_ (Nat.le_add_right _ _) | (with_reducible refine bstep ?_ (by assumption))))⟩
        case measure => simp [intOf]; omega
    · have hkl : k = l.length := by omega
      have hyes : Hid (l.all chmP = true) := by
        have h := hall.out
        refine Lib.hid (List.all_eq_true.2 fun p hp => ?_)
        obtain ⟨j, hj, hjp⟩ := List.mem_iff_getElem.1 hp
        exact h j p (by omega) (by rw [List.getElem?_eq_getElem hj, hjp])
      clear hall
      go_wp2
      go_ret
      refine ⟨_, rfl, ?_, hbel⟩
      have hyes := hyes.out
      exact Lib.hid (by rw [hyes]; simp)
theorem chm_ix_nil (g : Nat) (w : World) :
    Calls Try.prog 77 #[.slice none 0 0, .func (.func 61) #[] #[.pointer (some ⟨g, 0, none⟩)]] w fun e w' => ∃ i : Int, e = .returned (.int .i64 i) ∧ Hid (decide (0 ≤ i) = !([] : List MarketV).all chmP) ∧ Below w.heap.size w w' := by
  go_enter Try.func77, Try.ntmps77
  go_wp2
  go_loopw [8] (fun i wr => i = .int .i64 0 ∧ wr = w) (fun _ _ => 0)
  case atStart => exact ⟨rfl, rfl⟩
  case round =>
    obtain ⟨rfl, rfl⟩ := hrel
    go_wp2
    go_ret
    exact ⟨_, rfl, Lib.hid (by simp), Below.refl _ _⟩
theorem chm_has (v : Value) (l : List MarketV) (g : Nat) (w : World) (h : RowG 4 fMarket w v l) (hcl : w.cell? ⟨g, 0, none⟩ = some (.func (.func 38) #[] #[])) :
    Calls Try.prog 60 #[v, .func (.func 61) #[] #[.pointer (some ⟨g, 0, none⟩)]] w fun e w' => e = .returned (.bool (!l.all chmP)) ∧ Below w.heap.size w w' := by
  have HI : Hid (∀ W, Below w.heap.size w W → Calls Try.prog 77 #[v, .func (.func 61) #[] #[.pointer (some ⟨g, 0, none⟩)]] W fun e w' => ∃ i : Int, e = .returned (.int .i64 i) ∧ Hid (decide (0 ≤ i) = !l.all chmP) ∧ Below W.heap.size W w') := by
    refine Lib.hid (fun W hb => ?_)
    rcases h with ⟨rfl, rfl⟩ | ⟨a, cap, rfl, hL⟩
    · exact chm_ix_nil g W
    · exact chm_ix a cap l g W (liesG_below hL hb) (keepa hb (cell_lt hcl) hcl)
  have hsh : ∃ a n c, v = .slice a n c := by
    rcases h with ⟨rfl, _⟩ | ⟨a, cap, rfl, _⟩ <;> exact ⟨_, _, _, rfl⟩
  obtain ⟨a, n, c, rfl⟩ := hsh
  clear h
  generalize l.all chmP = B at *
  go_enter Try.func60, Try.ntmps60
  go_wp2_with fail
  refine (HI.out _ (by (repeat (first | with_reducible exact Below.refl _ _ | with_reducible assumption | with_reducible refine balloc ?_ _ | with_reducible refine bdrew ?_ | with_reducible refine below_drewN ?_ _ | with_reducible refine bset ?_ ?_ _ | with_reducible exact Nat.le_refl _ | with_reducible refine bsize ?_ | (dsimp only; refine Nat.le_trans ?_ (Nat.le_add_right _ _)) | with_reducible refine Nat.le_trans ?_ (Nat.le_add_right _ _) | (with_reducible refine bstep ?_ (by assumption)))))).mono ?_
  rintro e w1 ⟨i, rfl, hi, hb1⟩
  by_cases h0 : 0 ≤ i
  all_goals
    have hB := hi.out
    simp only [h0, decide_true, decide_false] at hB
    replace hB := Lib.hid hB
    clear hi
    go_wp2
    go_ret
    refine ⟨by rw [← hB.out]; first | rfl | simp [h0], ?_⟩
    (repeat (first | with_reducible exact Below.refl _ _ | with_reducible assumption | with_reducible refine balloc ?_ _ | with_reducible refine bdrew ?_ | with_reducible refine below_drewN ?_ _ | with_reducible refine bset ?_ ?_ _ | with_reducible exact Nat.le_refl _ | with_reducible refine bsize ?_ | (dsimp only; refine Nat.le_trans ?_ (Nat.le_add_right _ _)) | with_reducible refine Nat.le_trans ?_ (Nat.le_add_right _ _) | (with_reducible refine bstep ?_ (by assumption))))
theorem chm_is (v : Value) (l : List MarketV) (w : World) (h : RowG 4 fMarket w v l) :
    Calls Try.prog 37 #[v, .int .i64 20, .func (.func 38) #[] #[]] w fun e w' => e = .returned (.bool (chmB l)) ∧ Below w.heap.size w w' := by
  have HC := Lib.hid (fun W g (hb : Below w.heap.size w W) hc => chm_has v l g W (by
    rcases h with ⟨rfl, rfl⟩ | ⟨a, cap, rfl, hL⟩
    · exact Or.inl ⟨rfl, rfl⟩
    · exact Or.inr ⟨a, cap, rfl, liesG_below hL hb⟩) hc)
  have hsh : ∃ a c, v = .slice a l.length c ∧ l.length ≤ 9223372036854775807 := by
    rcases h with ⟨rfl, rfl⟩ | ⟨a, cap, rfl, hL⟩
    · exact ⟨none, 0, rfl, by simp⟩
    · exact ⟨some a, cap, rfl, by have := hL.hlc; have := hL.hcap; omega⟩
  obtain ⟨a, c, rfl, hn⟩ := hsh
  clear h
  unfold chmB
  generalize l.all chmP = B at *
  generalize l.length = n at *
  by_cases h20 : n ≤ 20
  · go_enter Try.func37, Try.ntmps37
    go_wp2_with fail
    refine (HC.out _ w.heap.size (by (repeat (first | with_reducible exact Below.refl _ _ | with_reducible assumption | with_reducible refine balloc ?_ _ | with_reducible refine bdrew ?_ | with_reducible refine below_drewN ?_ _ | with_reducible refine bset ?_ ?_ _ | with_reducible exact Nat.le_refl _ | with_reducible refine bsize ?_ | (dsimp only; refine Nat.le_trans ?_ (Nat.le_add_right _ _)) | with_reducible refine Nat.le_trans ?_ (Nat.le_add_right _ _) | (with_reducible refine bstep ?_ (by assumption))))) (by simp)).mono ?_
    rintro e w1 ⟨rfl, hb1⟩
    go_wp2
    go_ret
    refine ⟨by simp [h20], ?_⟩
    (repeat (first | with_reducible exact Below.refl _ _ | with_reducible assumption | with_reducible refine balloc ?_ _ | with_reducible refine bdrew ?_ | with_reducible refine below_drewN ?_ _ | with_reducible refine bset ?_ ?_ _ | with_reducible exact Nat.le_refl _ | with_reducible refine bsize ?_ | (dsimp only; refine Nat.le_trans ?_ (Nat.le_add_right _ _)) | with_reducible refine Nat.le_trans ?_ (Nat.le_add_right _ _) | (with_reducible refine bstep ?_ (by assumption))))
  · go_enter Try.func37, Try.ntmps37
    go_wp2
    go_ret
    refine ⟨by simp [h20], ?_⟩
    (repeat (first | with_reducible exact Below.refl _ _ | with_reducible assumption | with_reducible refine balloc ?_ _ | with_reducible refine bdrew ?_ | with_reducible refine below_drewN ?_ _ | with_reducible refine bset ?_ ?_ _ | with_reducible exact Nat.le_refl _ | with_reducible refine bsize ?_ | (dsimp only; refine Nat.le_trans ?_ (Nat.le_add_right _ _)) | with_reducible refine Nat.le_trans ?_ (Nat.le_add_right _ _) | (with_reducible refine bstep ?_ (by assumption))))
end Go.Proofs.Ytgmgifgbalcngaa

/- The first market with the most (the program). -/
namespace Go.Proofs.Ytgmgifgbalcngaa
open Go.ChangeShapes Go.WideShapes Go.ChangeAt Go.RowKit Go.Joins
set_option maxRecDepth 100000
set_option linter.unusedVariables false
set_option linter.unusedSimpArgs false

set_option maxHeartbeats 3200000 in
theorem bestM_some (N V : MarketV → Int) (G : MarketV → Bool) (q0 q1 : Nat) (a : Addr) (cap : Nat) (l : List MarketV) (w : World) (hL : LiesG 4 fMarket w a cap l) (hG : ∀ p ∈ l, G p = true → amB (N p) (V p) = true)
    (hcon : ∀ p ∈ l, ∀ W, Below w.heap.size w W → Calls Try.prog 40 #[.agg #[.int .i64 p.a, .int .i64 p.b, .int .i64 p.n, .int .i64 p.d], .pointer (some ⟨q0, 0, none⟩), .pointer (some ⟨q1, 0, none⟩)] W fun e w' => e = .returned (.tuple #[.agg #[.int .i64 (N p), .int .i64 (V p)], .bool (G p)]) ∧ Below W.heap.size W w') :
    Calls Try.prog 39 #[.slice (some a) l.length cap, .func (.func 40) #[] #[.pointer (some ⟨q0, 0, none⟩), .pointer (some ⟨q1, 0, none⟩)]] w fun e w' => e = .returned (.tuple #[.int .i64 (bsR N V G l).i, .agg #[.int .i64 (bsR N V G l).n, .int .i64 (bsR N V G l).d], .bool (bsR N V G l).f]) ∧ Below w.heap.size w w' := by
  have hlc := hL.hlc
  have hcap := hL.hcap
  have HC := Lib.hid hcon
  have HG := Lib.hid hG
  clear hcon hG
  go_enter Try.func39, Try.ntmps39
  go_wp2
  go_loopw [7, 9, 19] (fun ix fd i wr => ∃ (k : Nat) (s : BsV), k ≤ l.length ∧ i = .int .i64 k ∧ ix = .int .i64 s.i ∧ fd = .bool s.f ∧ Hid (BsOk s) ∧ Hid (bsF N V G (l.drop k) k s = bsR N V G l) ∧
      wr.cell? ⟨w.heap.size + 1, 0, none⟩ = some (.int .i64 s.n) ∧ wr.cell? ⟨w.heap.size + 1, 1, none⟩ = some (.int .i64 s.d) ∧ wr.frozen? ⟨w.heap.size + 1, 0, none⟩ = false ∧ wr.frozen? ⟨w.heap.size + 1, 1, none⟩ = false ∧
      wr.cell? ⟨w.heap.size, 0, none⟩ = some (.int .i64 0) ∧ wr.cell? ⟨w.heap.size, 1, none⟩ = some (.int .i64 0) ∧ wr.frozen? ⟨w.heap.size, 0, none⟩ = false ∧ wr.frozen? ⟨w.heap.size, 1, none⟩ = false ∧ w.heap.size + 1 < wr.heap.size ∧ Below w.heap.size w wr) (fun _ _ i _ => l.length - (intOf i).toNat)
  case atStart =>
    refine ⟨0, ⟨0, 0, 0, false⟩, Nat.zero_le _, rfl, rfl, rfl, Lib.hid bs_start, Lib.hid rfl, by simp [go_sem], by simp [go_sem], by simp [go_sem], by simp [go_sem], by simp [go_sem], by simp [go_sem], by simp [go_sem], by simp [go_sem], by simp, ?_⟩
    (repeat (first | with_reducible exact Below.refl _ _ | with_reducible assumption | with_reducible refine balloc ?_ _ | with_reducible refine bdrew ?_ | with_reducible refine below_drewN ?_ _ | with_reducible refine bset ?_ ?_ _ | with_reducible exact Nat.le_refl _ | with_reducible refine bsize ?_ | (dsimp only; refine Nat.le_trans ?_ (Nat.le_add_right _ _)) | with_reducible refine Nat.le_trans ?_ (Nat.le_add_right _ _) | (with_reducible refine bstep ?_ (by assumption))))
  case round =>
    obtain ⟨k, s, hk, rfl, rfl, rfl, hok, hfold, s1, s2, s3, s4, r1, r2, r3, r4, hs, hbel⟩ := hrel
    by_cases hlt : k < l.length
    · obtain ⟨p, hp⟩ : ∃ p, l[k]? = some p := ⟨_, List.getElem?_eq_getElem hlt⟩
      have hL2 := liesG_below hL hbel
      have hc := hL2.hcell k p hp
      have e0 := hc 0 p.a rfl
      rw [Nat.add_zero] at e0
      have e1 : wr.cell? ⟨(a.add (k * 4)).block, (a.add (k * 4)).off + 1, none⟩ = some (.int .i64 p.b) := by
        have h := hc 1 p.b rfl
        rw [← Deep.add_add] at h
        exact h
      have e2 : wr.cell? ⟨(a.add (k * 4)).block, (a.add (k * 4)).off + 2, none⟩ = some (.int .i64 p.n) := by
        have h := hc 2 p.n rfl
        rw [← Deep.add_add] at h
        exact h
      have e3 : wr.cell? ⟨(a.add (k * 4)).block, (a.add (k * 4)).off + 3, none⟩ = some (.int .i64 p.d) := by
        have h := hc 3 p.d rfl
        rw [← Deep.add_add] at h
        exact h
      clear hc
      have hmem := List.mem_of_getElem? hp
      have HE : Hid (∀ W, Below w.heap.size w W → Calls Try.prog 40 #[.agg #[.int .i64 p.a, .int .i64 p.b, .int .i64 p.n, .int .i64 p.d], .pointer (some ⟨q0, 0, none⟩), .pointer (some ⟨q1, 0, none⟩)] W fun e w' => e = .returned (.tuple #[.agg #[.int .i64 (N p), .int .i64 (V p)], .bool (G p)]) ∧ Below W.heap.size W w') := Lib.hid (HC.out p hmem)
      have hgp := HG.out p hmem
      have hnx := Lib.hid (bs_next hp hfold.out)
      have hok2 := Lib.hid (bs_step N V G hok.out (k := (k : Int)) (by omega) hgp)
      have hO := hok.out
      have b0 : -9223372036854775808 ≤ s.n ∧ s.n ≤ 9223372036854775807 := by have := hO.n0; have := hO.n1; omega
      have b1 : -9223372036854775808 ≤ s.d ∧ s.d ≤ 9223372036854775807 := by have := hO.d0; have := hO.d1; omega
      have i1 : (0 : Int) ≤ (k : Int) := by omega
      have i2 : (k : Int) < (l.length : Int) := by omega
      have hs0 : w.heap.size < wr.heap.size := by omega
      clear hL2 hfold hok hmem
      cases hE : G p
      · have hst : Hid (bsStep N V G s k p = s) := Lib.hid (by unfold bsStep; rw [hE]; rfl)
        rw [hst.out] at hnx hok2
        rw [hE] at HE
        clear hst hgp hp hE HC HG hO
        generalize N p = n at *
        generalize V p = d at *
        go_wp2_with fail
        refine (HE.out _ (by (repeat (first | with_reducible exact Below.refl _ _ | with_reducible assumption | with_reducible refine balloc ?_ _ | with_reducible refine bdrew ?_ | with_reducible refine below_drewN ?_ _ | with_reducible refine bset ?_ ?_ _ | with_reducible exact Nat.le_refl _ | with_reducible refine bsize ?_ | (dsimp only; refine Nat.le_trans ?_ (Nat.le_add_right _ _)) | with_reducible refine Nat.le_trans ?_ (Nat.le_add_right _ _) | (with_reducible refine bstep ?_ (by assumption)))))).mono ?_
        rintro e w3 ⟨rfl, hb3⟩
        have f3 : Below wr.heap.size wr w3 := bstep (by (repeat (first | with_reducible exact Below.refl _ _ | with_reducible assumption | with_reducible refine balloc ?_ _ | with_reducible refine bdrew ?_ | with_reducible refine below_drewN ?_ _ | with_reducible refine bset ?_ ?_ _ | with_reducible exact Nat.le_refl _ | with_reducible refine bsize ?_ | (dsimp only; refine Nat.le_trans ?_ (Nat.le_add_right _ _)) | with_reducible refine Nat.le_trans ?_ (Nat.le_add_right _ _) | (with_reducible refine bstep ?_ (by assumption))))) hb3
        clear hb3 HE
        replace s1 := keepa f3 hs s1
        replace s2 := keepa f3 hs s2
        replace s3 := keepz f3 hs s3
        replace s4 := keepz f3 hs s4
        replace r1 := keepa f3 hs0 r1
        replace r2 := keepa f3 hs0 r2
        replace r3 := keepz f3 hs0 r3
        replace r4 := keepz f3 hs0 r4
        have z3 : w.heap.size + 1 < w3.heap.size := Nat.lt_of_lt_of_le hs f3.size
        have z4 : w.heap.size < w3.heap.size := by omega
        have hb := bstep hbel f3
        clear f3 hbel
        go_wp2
        go_roundw
        case rel =>
          refine ⟨k + 1, s, by omega, by go_num, rfl, rfl, hok2, hnx, by simp [go_sem, s1, z3], by simp [go_sem, s2, z3], by simp [go_sem, s3, z3], by simp [go_sem, s4, z3], by simp [go_sem, r1, z4], by simp [go_sem, r2, z4], by simp [go_sem, r3, z4], by simp [go_sem, r4, z4], by simp; omega, ?_⟩
          (repeat (first | with_reducible exact Below.refl _ _ | with_reducible assumption | with_reducible refine balloc ?_ _ | with_reducible refine bdrew ?_ | with_reducible refine below_drewN ?_ _ | with_reducible refine bset ?_ ?_ _ | with_reducible exact Nat.le_refl _ | with_reducible refine bsize ?_ | (dsimp only; refine Nat.le_trans ?_ (Nat.le_add_right _ _)) | with_reducible refine Nat.le_trans ?_ (Nat.le_add_right _ _) | (with_reducible refine bstep ?_ (by assumption))))
        case measure => simp [intOf]; omega
      · have ha := am_of _ _ (hgp hE)
        have b2 : -9223372036854775808 ≤ N p ∧ N p ≤ 9223372036854775807 := by have := ha.a; have := ha.b; omega
        have b3 : -9223372036854775808 ≤ V p ∧ V p ≤ 9223372036854775807 := by have := ha.c; have := ha.d; omega
        have HM := Lib.hid (fun W => compare_impl (N p) (V p) s.n s.d b2 b3 b0 b1 W)
        have hst : Hid (bsStep N V G s k p = if s.f = false ∨ 0 < cmI (N p) (V p) s.n s.d then ⟨k, N p, V p, true⟩ else s) := Lib.hid (by unfold bsStep; rw [hE]; rfl)
        rw [hst.out] at hnx hok2
        rw [hE] at HE
        clear hst hgp hp hE HC HG hO ha b0 b1 b2 b3
        generalize cmI (N p) (V p) s.n s.d = C at *
        generalize okk (N p) (V p) s.n s.d = O at *
        generalize N p = n at *
        generalize V p = d at *
        go_wp2_with fail
        refine (HE.out _ (by (repeat (first | with_reducible exact Below.refl _ _ | with_reducible assumption | with_reducible refine balloc ?_ _ | with_reducible refine bdrew ?_ | with_reducible refine below_drewN ?_ _ | with_reducible refine bset ?_ ?_ _ | with_reducible exact Nat.le_refl _ | with_reducible refine bsize ?_ | (dsimp only; refine Nat.le_trans ?_ (Nat.le_add_right _ _)) | with_reducible refine Nat.le_trans ?_ (Nat.le_add_right _ _) | (with_reducible refine bstep ?_ (by assumption)))))).mono ?_
        rintro e w3 ⟨rfl, hb3⟩
        have f3 : Below wr.heap.size wr w3 := bstep (by (repeat (first | with_reducible exact Below.refl _ _ | with_reducible assumption | with_reducible refine balloc ?_ _ | with_reducible refine bdrew ?_ | with_reducible refine below_drewN ?_ _ | with_reducible refine bset ?_ ?_ _ | with_reducible exact Nat.le_refl _ | with_reducible refine bsize ?_ | (dsimp only; refine Nat.le_trans ?_ (Nat.le_add_right _ _)) | with_reducible refine Nat.le_trans ?_ (Nat.le_add_right _ _) | (with_reducible refine bstep ?_ (by assumption))))) hb3
        clear hb3 HE
        replace s1 := keepa f3 hs s1
        replace s2 := keepa f3 hs s2
        replace s3 := keepz f3 hs s3
        replace s4 := keepz f3 hs s4
        replace r1 := keepa f3 hs0 r1
        replace r2 := keepa f3 hs0 r2
        replace r3 := keepz f3 hs0 r3
        replace r4 := keepz f3 hs0 r4
        have z3 : w.heap.size + 1 < w3.heap.size := Nat.lt_of_lt_of_le hs f3.size
        have z4 : w.heap.size < w3.heap.size := by omega
        have hb := bstep hbel f3
        clear f3 hbel
        go_wp2_with fail
        refine (HM.out _).mono ?_
        rintro e w4 ⟨rfl, hb4⟩
        have f4 : Below w3.heap.size w3 w4 := bstep (by (repeat (first | with_reducible exact Below.refl _ _ | with_reducible assumption | with_reducible refine balloc ?_ _ | with_reducible refine bdrew ?_ | with_reducible refine below_drewN ?_ _ | with_reducible refine bset ?_ ?_ _ | with_reducible exact Nat.le_refl _ | with_reducible refine bsize ?_ | (dsimp only; refine Nat.le_trans ?_ (Nat.le_add_right _ _)) | with_reducible refine Nat.le_trans ?_ (Nat.le_add_right _ _) | (with_reducible refine bstep ?_ (by assumption))))) hb4
        obtain ⟨kc4, kf4, kz4, ky4, kx4, kv4, ku4⟩ := bcell hb4
        have t1 : w4.cell? ⟨w3.heap.size, 0, none⟩ = some (.int .i64 n) := by rw [kc4 _ _ (by simp)]; simp [go_sem]
        have t2 : w4.cell? ⟨w3.heap.size, 1, none⟩ = some (.int .i64 d) := by rw [kc4 _ _ (by simp)]; simp [go_sem]
        have t3 := kz4 w3.heap.size (by simp)
        clear kc4 kf4 kz4 ky4 kx4 kv4 ku4 hb4 HM
        replace s1 := keepa f4 z3 s1
        replace s2 := keepa f4 z3 s2
        replace s3 := keepz f4 z3 s3
        replace s4 := keepz f4 z3 s4
        replace r1 := keepa f4 z4 r1
        replace r2 := keepa f4 z4 r2
        replace r3 := keepz f4 z4 r3
        replace r4 := keepz f4 z4 r4
        replace z3 : w.heap.size + 1 < w4.heap.size := Nat.lt_of_lt_of_le z3 f4.size
        replace z4 : w.heap.size < w4.heap.size := by omega
        replace hb := bstep hb f4
        clear f4
        obtain ⟨si, sn, sd, sf⟩ := s
        dsimp only at *
        by_cases hC : 0 < C
        all_goals cases hf : sf
        all_goals subst hf
        all_goals (first | (rw [if_pos (Or.inl rfl)] at hnx hok2) | (rw [if_pos (Or.inr hC)] at hnx hok2) | (rw [if_neg (by rintro (h | h); exact absurd h (by decide); exact hC h)] at hnx hok2))
        all_goals go_wp2
        all_goals (try go_region)
        all_goals (try go_wp2)
        all_goals go_roundw
        all_goals first | (simp [intOf]; omega) | (refine ⟨k + 1, _, by omega, by go_num, rfl, rfl, hok2, hnx, by simp [go_sem, s1, s2, z3, t1, t2, t3], by simp [go_sem, s1, s2, z3, t1, t2, t3], by simp [go_sem, s3, z3, t3], by simp [go_sem, s4, z3, t3], by simp [go_sem, r1, z4], by simp [go_sem, r2, z4], by simp [go_sem, r3, z4], by simp [go_sem, r4, z4], by first | omega | (simp; omega), ?_⟩; (repeat (first | with_reducible exact Below.refl _ _ | with_reducible assumption | with_reducible refine balloc ?_ _ | with_reducible refine bdrew ?_ | with_reducible refine below_drewN ?_ _ | with_reducible refine bset ?_ ?_ _ | with_reducible exact Nat.le_refl _ | with_reducible refine bsize ?_ | (dsimp only; refine Nat.le_trans ?_ (Nat.le_add_right _ _)) | with_reducible refine Nat.le_trans ?_ (Nat.le_add_right _ _) | (with_reducible refine bstep ?_ (by assumption)))))
    · have hk' : k = l.length := by omega
      subst hk'
      have hR := Lib.hid (bs_end hfold.out)
      clear hfold hok HC HG
      obtain ⟨si, sn, sd, sf⟩ := s
      dsimp only at *
      go_wp2
      all_goals (try go_region)
      all_goals (try go_wp2)
      all_goals refine bodyPost_ret (v := .tuple #[.int .i64 si, .agg #[.int .i64 sn, .int .i64 sd], .bool sf]) (by simp only [results, Try.results39]; go_simp) rfl ⟨by rw [← hR.out], ?_⟩
      all_goals (repeat (first | with_reducible exact Below.refl _ _ | with_reducible assumption | with_reducible refine balloc ?_ _ | with_reducible refine bdrew ?_ | with_reducible refine below_drewN ?_ _ | with_reducible refine bset ?_ ?_ _ | with_reducible exact Nat.le_refl _ | with_reducible refine bsize ?_ | (dsimp only; refine Nat.le_trans ?_ (Nat.le_add_right _ _)) | with_reducible refine Nat.le_trans ?_ (Nat.le_add_right _ _) | (with_reducible refine bstep ?_ (by assumption))))
theorem bestM_nil (N V : MarketV → Int) (G : MarketV → Bool) (q0 q1 : Nat) (w : World) :
    Calls Try.prog 39 #[.slice none 0 0, .func (.func 40) #[] #[.pointer (some ⟨q0, 0, none⟩), .pointer (some ⟨q1, 0, none⟩)]] w fun e w' => e = .returned (.tuple #[.int .i64 (bsR N V G []).i, .agg #[.int .i64 (bsR N V G []).n, .int .i64 (bsR N V G []).d], .bool (bsR N V G []).f]) ∧ Below w.heap.size w w' := by
  show Calls Try.prog 39 #[.slice none 0 0, .func (.func 40) #[] #[.pointer (some ⟨q0, 0, none⟩), .pointer (some ⟨q1, 0, none⟩)]] w fun e w' => e = .returned (.tuple #[.int .i64 0, .agg #[.int .i64 0, .int .i64 0], .bool false]) ∧ Below w.heap.size w w'
  go_enter Try.func39, Try.ntmps39
  go_wp2
  go_loopw [7, 9, 19] (fun ix fd i wr => i = .int .i64 0 ∧ ix = .int .i64 0 ∧ fd = .bool false ∧ wr = ((w.alloc (.cells #[.int .i64 0, .int .i64 0] 28)).alloc (.cells #[.int .i64 0, .int .i64 0] 28))) (fun _ _ _ _ => 0)
  case atStart => exact ⟨rfl, rfl, rfl, by simp [go_sem]⟩
  case round =>
    obtain ⟨rfl, rfl, rfl, rfl⟩ := hrel
    go_wp2
    all_goals (try go_region)
    all_goals (try go_wp2)
    all_goals refine bodyPost_ret (v := .tuple #[.int .i64 0, .agg #[.int .i64 0, .int .i64 0], .bool false]) (by simp only [results, Try.results39]; go_simp) rfl ⟨rfl, ?_⟩
    all_goals (repeat (first | with_reducible exact Below.refl _ _ | with_reducible assumption | with_reducible refine balloc ?_ _ | with_reducible refine bdrew ?_ | with_reducible refine below_drewN ?_ _ | with_reducible refine bset ?_ ?_ _ | with_reducible exact Nat.le_refl _ | with_reducible refine bsize ?_ | (dsimp only; refine Nat.le_trans ?_ (Nat.le_add_right _ _)) | with_reducible refine Nat.le_trans ?_ (Nat.le_add_right _ _) | (with_reducible refine bstep ?_ (by assumption))))
theorem bestM_row (N V : MarketV → Int) (G : MarketV → Bool) (q0 q1 : Nat) (v : Value) (l : List MarketV) (w : World) (h : RowG 4 fMarket w v l) (hG : ∀ p ∈ l, G p = true → amB (N p) (V p) = true)
    (hcon : ∀ p ∈ l, ∀ W, Below w.heap.size w W → Calls Try.prog 40 #[.agg #[.int .i64 p.a, .int .i64 p.b, .int .i64 p.n, .int .i64 p.d], .pointer (some ⟨q0, 0, none⟩), .pointer (some ⟨q1, 0, none⟩)] W fun e w' => e = .returned (.tuple #[.agg #[.int .i64 (N p), .int .i64 (V p)], .bool (G p)]) ∧ Below W.heap.size W w') :
    Calls Try.prog 39 #[v, .func (.func 40) #[] #[.pointer (some ⟨q0, 0, none⟩), .pointer (some ⟨q1, 0, none⟩)]] w fun e w' => e = .returned (.tuple #[.int .i64 (bsR N V G l).i, .agg #[.int .i64 (bsR N V G l).n, .int .i64 (bsR N V G l).d], .bool (bsR N V G l).f]) ∧ Below w.heap.size w w' := by
  rcases h with ⟨rfl, rfl⟩ | ⟨a, cap, rfl, hL⟩
  · exact bestM_nil N V G q0 q1 w
  · exact bestM_some N V G q0 q1 a cap l w hL hG hcon
def bmN (L E n d : Int) (p : MarketV) : Int := twoN (eaK L E n d p.a p.b p.n p.d) (eaX L E n d p.a p.b p.n p.d) (eaM L E n d p.a p.b p.n p.d)
def bmD (L E n d : Int) (p : MarketV) : Int := twoD (eaK L E n d p.a p.b p.n p.d) (eaX L E n d p.a p.b p.n p.d) (eaM L E n d p.a p.b p.n p.d)
def bmG (L E n d : Int) (p : MarketV) : Bool := twoB (eaK L E n d p.a p.b p.n p.d) (eaX L E n d p.a p.b p.n p.d) (eaM L E n d p.a p.b p.n p.d)
def bmR (L E n d : Int) (l : List MarketV) : BsV := if chmB l = true then bsR (bmN L E n d) (bmD L E n d) (bmG L E n d) l else ⟨0, 0, 0, false⟩
theorem bm_am (L E n d : Int) (p : MarketV) (h : bmG L E n d p = true) : amB (bmN L E n d p) (bmD L E n d p) = true := two_am _ _ _ h
theorem bm_no (L E n d : Int) (l : List MarketV) (h : askB L E n d = false) : bmR L E n d l = ⟨0, 0, 0, false⟩ := by
  unfold bmR
  split
  · exact bs_no (fun p => (ea_no L E n d p.a p.b p.n p.d (by rw [h]; rfl)).2.2)
  · rfl
set_option maxHeartbeats 1600000 in
theorem bestM_clo (L E n d : Int) (bn : -9223372036854775808 ≤ n ∧ n ≤ 9223372036854775807) (bd : -9223372036854775808 ≤ d ∧ d ≤ 9223372036854775807) (p : MarketV) (b0 : -9223372036854775808 ≤ p.a ∧ p.a ≤ 9223372036854775807) (b1 : -9223372036854775808 ≤ p.b ∧ p.b ≤ 9223372036854775807) (b2 : -9223372036854775808 ≤ p.n ∧ p.n ≤ 9223372036854775807) (b3 : -9223372036854775808 ≤ p.d ∧ p.d ≤ 9223372036854775807) (q0 q1 : Nat) (w : World)
    (c1 : w.cell? ⟨q0, 0, none⟩ = some (.int .i64 L)) (c2 : w.cell? ⟨q0, 1, none⟩ = some (.int .i64 E)) (c3 : w.cell? ⟨q1, 0, none⟩ = some (.int .i64 n)) (c4 : w.cell? ⟨q1, 1, none⟩ = some (.int .i64 d)) :
    Calls Try.prog 40 #[.agg #[.int .i64 p.a, .int .i64 p.b, .int .i64 p.n, .int .i64 p.d], .pointer (some ⟨q0, 0, none⟩), .pointer (some ⟨q1, 0, none⟩)] w fun e w' => e = .returned (.tuple #[.agg #[.int .i64 (bmN L E n d p), .int .i64 (bmD L E n d p)], .bool (bmG L E n d p)]) ∧ Below w.heap.size w w' := by
  have HO : Hid (∀ W, Calls Try.prog 41 #[.agg #[.int .i64 L, .int .i64 E], .agg #[.int .i64 n, .int .i64 d], .agg #[.int .i64 p.a, .int .i64 p.b, .int .i64 p.n, .int .i64 p.d]] W fun e w' => e = .returned (.tuple #[.agg #[.int .i64 (bmN L E n d p), .int .i64 (bmD L E n d p)], .bool (bmG L E n d p)]) ∧ Below W.heap.size W w') := Lib.hid (fun W => earned_impl L E n d p.a p.b p.n p.d bn bd b0 b1 b2 b3 W)
  have z0 : q0 < w.heap.size := cell_lt c1
  have z1 : q1 < w.heap.size := cell_lt c3
  generalize bmN L E n d p = N at *
  generalize bmD L E n d p = V at *
  generalize bmG L E n d p = G at *
  go_enter Try.func40, Try.ntmps40
  (go_wp2_with fail; refine (HO.out _).mono ?_; rintro e w1 ⟨rfl, hb1⟩; have ha1 := hb1; obtain ⟨kc1, kf1, kz1, ky1, kx1, kv1, ku1⟩ := bcell hb1)
  have r1 : w1.cell? ⟨w.heap.size + 1, 0, none⟩ = some (.int .i64 0) := (by rw [kc1 (w.heap.size + 1) _ (by first | (simp; done) | (simp; omega))]; first | (simp; done) | (simp [go_sem]; done)); have r2 : w1.cell? ⟨w.heap.size + 1, 1, none⟩ = some (.int .i64 0) := (by rw [kc1 (w.heap.size + 1) _ (by first | (simp; done) | (simp; omega))]; first | (simp; done) | (simp [go_sem]; done)); have r3 : w1.frozen? ⟨w.heap.size + 1, 0, none⟩ = false := (by rw [kf1 (w.heap.size + 1) _ (by first | (simp; done) | (simp; omega))]; first | (simp; done) | (simp [go_sem]; done)); have r4 : w1.frozen? ⟨w.heap.size + 1, 1, none⟩ = false := (by rw [kf1 (w.heap.size + 1) _ (by first | (simp; done) | (simp; omega))]; first | (simp; done) | (simp [go_sem]; done)); have rz : w.heap.size + 1 < w1.heap.size := kz1 (w.heap.size + 1) (by first | (simp; done) | (simp; omega))
  go_wp2
  refine bodyPost_ret (v := .tuple #[.agg #[.int .i64 N, .int .i64 V], .bool G]) (by simp only [results, Try.results40]; go_simp) rfl ⟨rfl, ?_⟩
  (repeat (first | with_reducible exact Below.refl _ _ | with_reducible assumption | with_reducible refine balloc ?_ _ | with_reducible refine bdrew ?_ | with_reducible refine below_drewN ?_ _ | with_reducible refine bset ?_ ?_ _ | with_reducible exact Nat.le_refl _ | with_reducible refine bsize ?_ | (dsimp only; refine Nat.le_trans ?_ (Nat.le_add_right _ _)) | with_reducible refine Nat.le_trans ?_ (Nat.le_add_right _ _) | (with_reducible refine bstep ?_ (by assumption))))
set_option maxHeartbeats 1600000 in
theorem bestMarket_impl (L E n d : Int) (bn : -9223372036854775808 ≤ n ∧ n ≤ 9223372036854775807) (bd : -9223372036854775808 ≤ d ∧ d ≤ 9223372036854775807) (v : Value) (l : List MarketV) (w : World) (h : RowG 4 fMarket w v l) :
    Calls Try.prog 17 #[.agg #[.int .i64 L, .int .i64 E], .agg #[.int .i64 n, .int .i64 d], v] w fun e w' => e = .returned (.tuple #[.int .i64 (bmR L E n d l).i, .bool (bmR L E n d l).f]) ∧ Below w.heap.size w w' := by
  have HR : Hid (∀ W, Below w.heap.size w W → RowG 4 fMarket W v l) := Lib.hid (fun W hb => by
    rcases h with ⟨rfl, rfl⟩ | ⟨a, cap, rfl, hL⟩
    · exact Or.inl ⟨rfl, rfl⟩
    · exact Or.inr ⟨a, cap, rfl, liesG_below hL hb⟩)
  have hbd : Hid (∀ p ∈ l, ∀ y ∈ fMarket p, -9223372036854775808 ≤ y ∧ y ≤ 9223372036854775807) := Lib.hid (by
    rcases h with ⟨rfl, rfl⟩ | ⟨a, cap, rfl, hL⟩
    · simp
    · exact hL.hbd)
  have HC := Lib.hid (fun W hb => chm_is v l W (HR.out W hb))
  have HB := Lib.hid (fun W hb q0 q1 hcon => bestM_row (bmN L E n d) (bmD L E n d) (bmG L E n d) q0 q1 v l W (HR.out W hb) (fun p _ hg => bm_am L E n d p hg) hcon)
  clear h
  unfold bmR
  cases hc : chmB l
  · rw [hc] at HC
    rw [if_neg (by decide)]
    clear HB hc
    go_enter Try.func17, Try.ntmps17
    (go_wp2_with fail; refine (HC.out _ (by (repeat (first | with_reducible exact Below.refl _ _ | with_reducible assumption | with_reducible refine balloc ?_ _ | with_reducible refine bdrew ?_ | with_reducible refine below_drewN ?_ _ | with_reducible refine bset ?_ ?_ _ | with_reducible exact Nat.le_refl _ | with_reducible refine bsize ?_ | (dsimp only; refine Nat.le_trans ?_ (Nat.le_add_right _ _)) | with_reducible refine Nat.le_trans ?_ (Nat.le_add_right _ _) | (with_reducible refine bstep ?_ (by assumption)))))).mono ?_; rintro e w1 ⟨rfl, hb1⟩; have ha1 := hb1; obtain ⟨kc1, kf1, kz1, ky1, kx1, kv1, ku1⟩ := bcell hb1)
    go_wp2
    refine bodyPost_ret (v := .tuple #[.int .i64 0, .bool false]) (by simp only [results, Try.results17]; go_simp) rfl ⟨rfl, ?_⟩
    (repeat (first | with_reducible exact Below.refl _ _ | with_reducible assumption | with_reducible refine balloc ?_ _ | with_reducible refine bdrew ?_ | with_reducible refine below_drewN ?_ _ | with_reducible refine bset ?_ ?_ _ | with_reducible exact Nat.le_refl _ | with_reducible refine bsize ?_ | (dsimp only; refine Nat.le_trans ?_ (Nat.le_add_right _ _)) | with_reducible refine Nat.le_trans ?_ (Nat.le_add_right _ _) | (with_reducible refine bstep ?_ (by assumption))))
  · rw [hc] at HC
    rw [if_pos rfl]
    clear hc
    generalize bsR (bmN L E n d) (bmD L E n d) (bmG L E n d) l = R at *
    obtain ⟨ri, rn, rd, rf⟩ := R
    dsimp only at *
    go_enter Try.func17, Try.ntmps17
    (go_wp2_with fail; refine (HC.out _ (by (repeat (first | with_reducible exact Below.refl _ _ | with_reducible assumption | with_reducible refine balloc ?_ _ | with_reducible refine bdrew ?_ | with_reducible refine below_drewN ?_ _ | with_reducible refine bset ?_ ?_ _ | with_reducible exact Nat.le_refl _ | with_reducible refine bsize ?_ | (dsimp only; refine Nat.le_trans ?_ (Nat.le_add_right _ _)) | with_reducible refine Nat.le_trans ?_ (Nat.le_add_right _ _) | (with_reducible refine bstep ?_ (by assumption)))))).mono ?_; rintro e w1 ⟨rfl, hb1⟩; have ha1 := hb1; obtain ⟨kc1, kf1, kz1, ky1, kx1, kv1, ku1⟩ := bcell hb1)
    have c1 : w1.cell? ⟨w.heap.size, 0, none⟩ = some (.int .i64 L) := by rw [kc1 _ _ (by simp)]; simp [go_sem]
    have c2 : w1.cell? ⟨w.heap.size, 1, none⟩ = some (.int .i64 E) := by rw [kc1 _ _ (by simp)]; simp [go_sem]
    have c3 : w1.cell? ⟨w.heap.size + 1, 0, none⟩ = some (.int .i64 n) := by rw [kc1 _ _ (by simp)]; simp [go_sem]
    have c4 : w1.cell? ⟨w.heap.size + 1, 1, none⟩ = some (.int .i64 d) := by rw [kc1 _ _ (by simp)]; simp [go_sem]
    have z1 := kz1 (w.heap.size + 1) (by simp)
    have hcl := Lib.hid (fun (p : MarketV) (hp : p ∈ l) (W : World) (hb : Below w1.heap.size w1 W) => bestM_clo L E n d bn bd p (hbd.out p hp p.a (by simp [fMarket])) (hbd.out p hp p.b (by simp [fMarket])) (hbd.out p hp p.n (by simp [fMarket])) (hbd.out p hp p.d (by simp [fMarket])) w.heap.size (w.heap.size + 1) W (keepa hb (by omega) c1) (keepa hb (by omega) c2) (keepa hb z1 c3) (keepa hb z1 c4))
    have hA1 : Below w.heap.size w w1 := by (repeat (first | with_reducible exact Below.refl _ _ | with_reducible assumption | with_reducible refine balloc ?_ _ | with_reducible refine bdrew ?_ | with_reducible refine below_drewN ?_ _ | with_reducible refine bset ?_ ?_ _ | with_reducible exact Nat.le_refl _ | with_reducible refine bsize ?_ | (dsimp only; refine Nat.le_trans ?_ (Nat.le_add_right _ _)) | with_reducible refine Nat.le_trans ?_ (Nat.le_add_right _ _) | (with_reducible refine bstep ?_ (by assumption))))
    have HB2 := Lib.hid (HB.out w1 hA1 w.heap.size (w.heap.size + 1) hcl.out)
    clear hcl HB HC HR hbd c1 c2 c3 c4 z1
    (go_wp2_with fail; refine (HB2.out).mono ?_; rintro e w2 ⟨rfl, hb2⟩; have ha2 := bjoin ha1 hb2 (by (repeat (first | with_reducible exact Below.refl _ _ | with_reducible assumption | with_reducible refine balloc ?_ _ | with_reducible refine bdrew ?_ | with_reducible refine below_drewN ?_ _ | with_reducible refine bset ?_ ?_ _ | with_reducible exact Nat.le_refl _ | with_reducible refine bsize ?_ | (dsimp only; refine Nat.le_trans ?_ (Nat.le_add_right _ _)) | with_reducible refine Nat.le_trans ?_ (Nat.le_add_right _ _) | (with_reducible refine bstep ?_ (by assumption))))); obtain ⟨kc2, kf2, kz2, ky2, kx2, kv2, ku2⟩ := bcell hb2; obtain ⟨jc2, jf2, jz2, jy2, jx2, jv2, ju2⟩ := bcell ha2)
    go_wp2
    all_goals (try go_region)
    all_goals (try go_wp2)
    all_goals refine bodyPost_ret (v := .tuple #[.int .i64 ri, .bool rf]) (by simp only [results, Try.results17]; go_simp) rfl ⟨rfl, ?_⟩
    all_goals (repeat (first | with_reducible exact Below.refl _ _ | with_reducible assumption | with_reducible refine balloc ?_ _ | with_reducible refine bdrew ?_ | with_reducible refine below_drewN ?_ _ | with_reducible refine bset ?_ ?_ _ | with_reducible exact Nat.le_refl _ | with_reducible refine bsize ?_ | (dsimp only; refine Nat.le_trans ?_ (Nat.le_add_right _ _)) | with_reducible refine Nat.le_trans ?_ (Nat.le_add_right _ _) | (with_reducible refine bstep ?_ (by assumption))))
end Go.Proofs.Ytgmgifgbalcngaa

/- The first market with the most, of the model. -/
namespace Go.Proofs.Ytgmgifgbalcngaa
open Go.ChangeShapes Go.WideShapes Go.ChangeAt Go.RowKit Go.Joins
set_option maxRecDepth 100000
set_option linter.unusedVariables false
set_option linter.unusedSimpArgs false

theorem caEarned_bm (L E n d : Int) (p : MarketV) (ha : askB L E n d = true) (hp : mktB p.a p.b p.n p.d = true) (w : World) :
    Calls Try.prog 35 #[.agg #[.int .i64 L, .int .i64 E], .agg #[.int .i64 n, .int .i64 d], .agg #[.int .i64 p.a, .int .i64 p.b, .int .i64 p.n, .int .i64 p.d]] w fun e w' => e = .returned (.tuple #[.agg #[.int .i64 (bmN L E n d p), .int .i64 (bmD L E n d p)], .bool (bmG L E n d p)]) ∧ Below w.heap.size w w' := by
  unfold mktB at hp
  rw [Bool.and_eq_true] at hp
  obtain ⟨i1, i2, i3, i4⟩ := askB_yes L E n d ha
  obtain ⟨j1, j2, j3, j4⟩ := camB_yes L E i1
  obtain ⟨x1, x2, x3, x4⟩ := am_of n d i2
  obtain ⟨i5, i6⟩ := plB_yes p.a p.b hp.1
  obtain ⟨y1, y2, y3, y4⟩ := am_of p.a p.b i5
  have H := cam_in L E d n j1 j2 j3 j4 x3 i3 x1 i4
  exact caEarned_spec L E n d p.a p.b p.n p.d _ H rfl (by unfold leftAtK; rw [ha, hp.1]; rfl) y1 y2 y3 i6 hp.2 w
set_option maxHeartbeats 3200000 in
theorem bestMarket_spec_some (L E n d : Int) (bn : -9223372036854775808 ≤ n ∧ n ≤ 9223372036854775807) (bd : -9223372036854775808 ≤ d ∧ d ≤ 9223372036854775807) (a : Addr) (cap : Nat) (l : List MarketV) (w : World) (hL : LiesG 4 fMarket w a cap l) :
    Calls Try.prog 15 #[.agg #[.int .i64 L, .int .i64 E], .agg #[.int .i64 n, .int .i64 d], .slice (some a) l.length cap] w fun e w' => e = .returned (.tuple #[.int .i64 (bmR L E n d l).i, .bool (bmR L E n d l).f]) ∧ Below w.heap.size w w' := by
  have hlc := hL.hlc
  have hcap := hL.hcap
  have HA := Lib.hid (fun W => ask_spec L E n d bn bd W)
  cases h1 : askB L E n d
  · rw [h1] at HA
    rw [bm_no L E n d l h1]
    dsimp only
    clear h1
    go_enter Try.func15, Try.ntmps15
    (go_wp2_with fail; refine (HA.out _).mono ?_; rintro e w1 ⟨rfl, hb1⟩; have ha1 := hb1; obtain ⟨kc1, kf1, kz1, ky1, kx1, kv1, ku1⟩ := bcell hb1)
    go_wp2
    refine bodyPost_ret (v := .tuple #[.int .i64 0, .bool false]) (by simp only [results, Try.results15]; go_simp) rfl ⟨rfl, ?_⟩
    (repeat (first | with_reducible exact Below.refl _ _ | with_reducible assumption | with_reducible refine balloc ?_ _ | with_reducible refine bdrew ?_ | with_reducible refine below_drewN ?_ _ | with_reducible refine bset ?_ ?_ _ | with_reducible exact Nat.le_refl _ | with_reducible refine bsize ?_ | (dsimp only; refine Nat.le_trans ?_ (Nat.le_add_right _ _)) | with_reducible refine Nat.le_trans ?_ (Nat.le_add_right _ _) | (with_reducible refine bstep ?_ (by assumption))))
  by_cases h20 : l.length ≤ 20
  · have hask := Lib.hid h1
    have hno : Hid (l.all chmP = false → bmR L E n d l = ⟨0, 0, 0, false⟩) := Lib.hid (fun h => by unfold bmR chmB; rw [h, Bool.and_false]; rfl)
    have hyes : Hid (l.all chmP = true → bmR L E n d l = bsR (bmN L E n d) (bmD L E n d) (bmG L E n d) l) := Lib.hid (fun h => by unfold bmR chmB; rw [h]; simp [h20])
    rw [h1] at HA
    clear h1
    obtain ⟨RR, hRR⟩ : ∃ R, bmR L E n d l = R := ⟨_, rfl⟩
    rw [hRR] at hno hyes ⊢
    clear hRR
    go_enter Try.func15, Try.ntmps15
    (go_wp2_with fail; refine (HA.out _).mono ?_; rintro e w1 ⟨rfl, hb1⟩; have ha1 := hb1; obtain ⟨kc1, kf1, kz1, ky1, kx1, kv1, ku1⟩ := bcell hb1)
    have c1 : w1.cell? ⟨w.heap.size, 0, none⟩ = some (.int .i64 L) := by rw [kc1 _ _ (by simp)]; simp [go_sem]
    have c2 : w1.cell? ⟨w.heap.size, 1, none⟩ = some (.int .i64 E) := by rw [kc1 _ _ (by simp)]; simp [go_sem]
    have c3 : w1.cell? ⟨w.heap.size + 1, 0, none⟩ = some (.int .i64 n) := by rw [kc1 _ _ (by simp)]; simp [go_sem]
    have c4 : w1.cell? ⟨w.heap.size + 1, 1, none⟩ = some (.int .i64 d) := by rw [kc1 _ _ (by simp)]; simp [go_sem]
    have z1 := kz1 (w.heap.size + 1) (by simp)
    have hbw : Below w.heap.size w w1 := by (repeat (first | with_reducible exact Below.refl _ _ | with_reducible assumption | with_reducible refine balloc ?_ _ | with_reducible refine bdrew ?_ | with_reducible refine below_drewN ?_ _ | with_reducible refine bset ?_ ?_ _ | with_reducible exact Nat.le_refl _ | with_reducible refine bsize ?_ | (dsimp only; refine Nat.le_trans ?_ (Nat.le_add_right _ _)) | with_reducible refine Nat.le_trans ?_ (Nat.le_add_right _ _) | (with_reducible refine bstep ?_ (by assumption))))
    clear ha1 hb1 kc1 kf1 kz1 ky1 kx1 kv1 ku1 HA
    go_wp2
    go_loopw [27] (fun i wr => ∃ k : Nat, k ≤ l.length ∧ i = .int .i64 k ∧ Hid (∀ j p, j < k → l[j]? = some p → chmP p = true) ∧ Below w1.heap.size w1 wr) (fun i _ => l.length - (intOf i).toNat)
    case atStart => exact ⟨0, Nat.zero_le _, rfl, Lib.hid (fun j p h _ => absurd h (by omega)), Below.refl _ _⟩
    case round =>
      obtain ⟨k, hk, rfl, hall, hbel⟩ := hrel
      by_cases hlt : k < l.length
      · obtain ⟨p, hp⟩ : ∃ p, l[k]? = some p := ⟨_, List.getElem?_eq_getElem hlt⟩
        have hL2 := liesG_below hL (bstep hbw hbel)
        have hc := hL2.hcell k p hp
        have e0 := hc 0 p.a rfl
        rw [Nat.add_zero] at e0
        have e1 : wr.cell? ⟨(a.add (k * 4)).block, (a.add (k * 4)).off + 1, none⟩ = some (.int .i64 p.b) := by
          have h := hc 1 p.b rfl
          rw [← Deep.add_add] at h
          exact h
        have e2 : wr.cell? ⟨(a.add (k * 4)).block, (a.add (k * 4)).off + 2, none⟩ = some (.int .i64 p.n) := by
          have h := hc 2 p.n rfl
          rw [← Deep.add_add] at h
          exact h
        have e3 : wr.cell? ⟨(a.add (k * 4)).block, (a.add (k * 4)).off + 3, none⟩ = some (.int .i64 p.d) := by
          have h := hc 3 p.d rfl
          rw [← Deep.add_add] at h
          exact h
        clear hc
        have hbd := hL.hbd p (List.mem_of_getElem? hp)
        have b0 : -9223372036854775808 ≤ p.a ∧ p.a ≤ 9223372036854775807 := hbd p.a (by simp [fMarket])
        have b1 : -9223372036854775808 ≤ p.b ∧ p.b ≤ 9223372036854775807 := hbd p.b (by simp [fMarket])
        have b2 : -9223372036854775808 ≤ p.n ∧ p.n ≤ 9223372036854775807 := hbd p.n (by simp [fMarket])
        have b3 : -9223372036854775808 ≤ p.d ∧ p.d ≤ 9223372036854775807 := hbd p.d (by simp [fMarket])
        clear hbd
        have HM := Lib.hid (fun W => mkt_spec p.a p.b p.n p.d b0 b1 b2 b3 W)
        cases hP : mktB p.a p.b p.n p.d
        · have hn : l.all chmP = false := by
            rw [Bool.eq_false_iff]
            intro h
            have := (List.all_eq_true.1 h) p (List.mem_of_getElem? hp)
            unfold chmP at this
            rw [hP] at this
            cases this
          have hR := Lib.hid (hno.out hn)
          rw [hP] at HM
          have hz := bstep hbw hbel
          clear hL2 hP hall hno hyes hn hbel hbw
          go_wp2_with fail
          refine (HM.out _).mono ?_
          rintro e w2 ⟨rfl, hb2⟩
          go_wp2
          refine bodyPost_ret (v := .tuple #[.int .i64 0, .bool false]) (by simp only [results, Try.results15]; go_simp) rfl ⟨by rw [hR.out], ?_⟩
          (repeat (first | with_reducible exact Below.refl _ _ | with_reducible assumption | with_reducible refine balloc ?_ _ | with_reducible refine bdrew ?_ | with_reducible refine below_drewN ?_ _ | with_reducible refine bset ?_ ?_ _ | with_reducible exact Nat.le_refl _ | with_reducible refine bsize ?_ | (dsimp only; refine Nat.le_trans ?_ (Nat.le_add_right _ _)) | with_reducible refine Nat.le_trans ?_ (Nat.le_add_right _ _) | (with_reducible refine bstep ?_ (by assumption))))
        · have hnext : Hid (∀ j p, j < k + 1 → l[j]? = some p → chmP p = true) := by
            have h := hall.out
            refine Lib.hid (fun j q hj hq => ?_)
            by_cases e : j = k
            · subst e
              rw [hp] at hq
              injection hq with hq
              subst hq
              exact hP
            · exact h j q (by omega) hq
          rw [hP] at HM
          clear hL2 hP hall
          go_wp2_with fail
          refine (HM.out _).mono ?_
          rintro e w2 ⟨rfl, hb2⟩
          go_wp2
          go_roundw
          case rel => exact ⟨k + 1, by omega, by go_num, hnext, by (repeat (first | with_reducible exact Below.refl _ _ | with_reducible assumption | with_reducible refine balloc ?_ _ | with_reducible refine bdrew ?_ | with_reducible refine below_drewN ?_ _ | with_reducible refine bset ?_ ?_ _ | with_reducible exact Nat.le_refl _ | with_reducible refine bsize ?_ | (dsimp only; refine Nat.le_trans ?_ (Nat.le_add_right _ _)) | with_reducible refine Nat.le_trans ?_ (Nat.le_add_right _ _) | (with_reducible refine bstep ?_ (by assumption))))⟩
          case measure => simp [intOf]; omega
      · have hkl : k = l.length := by omega
        have hpl := hall
        have hal : l.all chmP = true := by
          have h := hall.out
          refine List.all_eq_true.2 fun p hp => ?_
          obtain ⟨j, hj, hjp⟩ := List.mem_iff_getElem.1 hp
          exact h j p (by omega) (by rw [List.getElem?_eq_getElem hj, hjp])
        have hRR := Lib.hid (hyes.out hal)
        replace hbw := bstep hbw hbel
        replace c1 := keepa hbel (by omega) c1
        replace c2 := keepa hbel (by omega) c2
        replace c3 := keepa hbel z1 c3
        replace c4 := keepa hbel z1 c4
        replace z1 := Nat.lt_of_lt_of_le z1 hbel.size
        clear hall hno hyes hal hbel
        (go_wp2_with fail; refine (whole_b2 0 _).mono ?_; rintro e w4 ⟨rfl, hb4⟩; (have ha4 : Below w.heap.size w w4 := by (repeat (first | with_reducible exact Below.refl _ _ | with_reducible assumption | with_reducible refine balloc ?_ _ | with_reducible refine bdrew ?_ | with_reducible refine below_drewN ?_ _ | with_reducible refine bset ?_ ?_ _ | with_reducible exact Nat.le_refl _ | with_reducible refine bsize ?_ | (dsimp only; refine Nat.le_trans ?_ (Nat.le_add_right _ _)) | with_reducible refine Nat.le_trans ?_ (Nat.le_add_right _ _) | (with_reducible refine bstep ?_ (by assumption))))); obtain ⟨kc4, kf4, kz4, ky4, kx4, kv4, ku4⟩ := bcell hb4)
        have f4 : Below wr.heap.size wr w4 := bstep (by (repeat (first | with_reducible exact Below.refl _ _ | with_reducible assumption | with_reducible refine balloc ?_ _ | with_reducible refine bdrew ?_ | with_reducible refine below_drewN ?_ _ | with_reducible refine bset ?_ ?_ _ | with_reducible exact Nat.le_refl _ | with_reducible refine bsize ?_ | (dsimp only; refine Nat.le_trans ?_ (Nat.le_add_right _ _)) | with_reducible refine Nat.le_trans ?_ (Nat.le_add_right _ _) | (with_reducible refine bstep ?_ (by assumption))))) hb4
        replace c1 := keepa f4 (by omega) c1
        replace c2 := keepa f4 (by omega) c2
        replace c3 := keepa f4 (by omega) c3
        replace c4 := keepa f4 (by omega) c4
        replace hbw := ha4
        replace z1 := Nat.lt_of_lt_of_le z1 f4.size
        clear ha4 hb4 f4 kc4 kf4 kz4 ky4 kx4 kv4 ku4
        subst hkl
        go_wp2
        go_loopw [10, 38] (fun bs i wr => ∃ (k : Nat) (sb : BsV) (b mn md : Int), k ≤ l.length ∧ i = .int .i64 k ∧ bs = .int .i64 b ∧ Hid ((sb.f = true → b = sb.i ∧ mn = sb.n ∧ md = sb.d) ∧ (sb.f = false → b = -1)) ∧ Hid (BsOk sb) ∧ Hid (bsF (bmN L E n d) (bmD L E n d) (bmG L E n d) (l.drop k) k sb = bsR (bmN L E n d) (bmD L E n d) (bmG L E n d) l) ∧
            wr.cell? ⟨w4.heap.size, 0, none⟩ = some (.int .i64 mn) ∧ wr.cell? ⟨w4.heap.size, 1, none⟩ = some (.int .i64 md) ∧ wr.frozen? ⟨w4.heap.size, 0, none⟩ = false ∧ wr.frozen? ⟨w4.heap.size, 1, none⟩ = false ∧ w4.heap.size < wr.heap.size ∧ Below w4.heap.size w4 wr) (fun _ i _ => l.length - (intOf i).toNat)
        case atStart =>
          refine ⟨0, ⟨0, 0, 0, false⟩, -1, 0, 1, Nat.zero_le _, rfl, rfl, Lib.hid ⟨fun h => (by cases h), fun _ => rfl⟩, Lib.hid bs_start, Lib.hid rfl, by simp [go_sem], by simp [go_sem], by simp [go_sem], by simp [go_sem], by simp, ?_⟩
          (repeat (first | with_reducible exact Below.refl _ _ | with_reducible assumption | with_reducible refine balloc ?_ _ | with_reducible refine bdrew ?_ | with_reducible refine below_drewN ?_ _ | with_reducible refine bset ?_ ?_ _ | with_reducible exact Nat.le_refl _ | with_reducible refine bsize ?_ | (dsimp only; refine Nat.le_trans ?_ (Nat.le_add_right _ _)) | with_reducible refine Nat.le_trans ?_ (Nat.le_add_right _ _) | (with_reducible refine bstep ?_ (by assumption))))
        case round =>
          obtain ⟨k, sb, b, mn, md, hk, rfl, rfl, heq, hok, hfold, m1, m2, m3, m4, mz, hbel⟩ := hrel
          replace c1 := keepa hbel (by omega) c1
          replace c2 := keepa hbel (by omega) c2
          replace c3 := keepa hbel (by omega) c3
          replace c4 := keepa hbel (by omega) c4
          have hzB := hbel.size

          by_cases hlt : k < l.length
          · obtain ⟨p, hp⟩ : ∃ p, l[k]? = some p := ⟨_, List.getElem?_eq_getElem hlt⟩
            have hL2 := liesG_below hL (bstep hbw hbel)
            have hc := hL2.hcell k p hp
            have e0 := hc 0 p.a rfl
            rw [Nat.add_zero] at e0
            have e1 : wr.cell? ⟨(a.add (k * 4)).block, (a.add (k * 4)).off + 1, none⟩ = some (.int .i64 p.b) := by
              have h := hc 1 p.b rfl
              rw [← Deep.add_add] at h
              exact h
            have e2 : wr.cell? ⟨(a.add (k * 4)).block, (a.add (k * 4)).off + 2, none⟩ = some (.int .i64 p.n) := by
              have h := hc 2 p.n rfl
              rw [← Deep.add_add] at h
              exact h
            have e3 : wr.cell? ⟨(a.add (k * 4)).block, (a.add (k * 4)).off + 3, none⟩ = some (.int .i64 p.d) := by
              have h := hc 3 p.d rfl
              rw [← Deep.add_add] at h
              exact h
            clear hc
            have hE := Lib.hid (fun W => caEarned_bm L E n d p hask.out (hpl.out k p hlt hp) W)
            have hgp : (bmG L E n d) p = true → amB ((bmN L E n d) p) ((bmD L E n d) p) = true := bm_am L E n d p
            have hnx := Lib.hid (bs_next hp hfold.out)
            have hok2 := Lib.hid (bs_step (bmN L E n d) (bmD L E n d) (bmG L E n d) hok.out (k := (k : Int)) (by omega) (fun h => hgp h))
            have i1 : (0 : Int) ≤ (k : Int) := by omega
            have i2 : (k : Int) < (l.length : Int) := by omega
            have z0 : w.heap.size < wr.heap.size := by omega
            have z1 : w.heap.size + 1 < wr.heap.size := by omega

            have st0 : bsStep (bmN L E n d) (bmD L E n d) (bmG L E n d) sb k p = if (bmG L E n d) p = true then (if sb.f = false ∨ 0 < cmI ((bmN L E n d) p) ((bmD L E n d) p) sb.n sb.d then ⟨k, (bmN L E n d) p, (bmD L E n d) p, true⟩ else sb) else sb := rfl
            have hST := Lib.hid st0
            clear hL2 hfold hp st0
            obtain ⟨Np, hNp⟩ : ∃ x, (bmN L E n d) p = x := ⟨_, rfl⟩
            obtain ⟨Vp, hVp⟩ : ∃ x, (bmD L E n d) p = x := ⟨_, rfl⟩
            obtain ⟨Gp, hGp⟩ : ∃ x, (bmG L E n d) p = x := ⟨_, rfl⟩
            rw [hNp, hVp, hGp] at hgp
            rw [hNp, hVp, hGp] at hST
            rw [hNp, hVp, hGp] at hE
            clear hNp hVp hGp
            go_wp2_with fail
            refine (hE.out _).mono ?_
            rintro e w6 ⟨rfl, hb6⟩
            have f6 : Below wr.heap.size wr w6 := bstep (by (repeat (first | with_reducible exact Below.refl _ _ | with_reducible assumption | with_reducible refine balloc ?_ _ | with_reducible refine bdrew ?_ | with_reducible refine below_drewN ?_ _ | with_reducible refine bset ?_ ?_ _ | with_reducible exact Nat.le_refl _ | with_reducible refine bsize ?_ | (dsimp only; refine Nat.le_trans ?_ (Nat.le_add_right _ _)) | with_reducible refine Nat.le_trans ?_ (Nat.le_add_right _ _) | (with_reducible refine bstep ?_ (by assumption))))) hb6
            replace m1 := keepa f6 mz m1
            replace m2 := keepa f6 mz m2
            replace m3 := keepz f6 mz m3
            replace m4 := keepz f6 mz m4
            replace mz := Nat.lt_of_lt_of_le mz f6.size
            have hz6 := f6.size
            have hb := bstep hbel f6
            clear hb6 f6 hE hbel e0 e1 e2 e3
            obtain ⟨si, sn, sd, sf⟩ := sb
            dsimp only at *
            have t1 : (0 : Nat) = 0 := rfl
            have t2 : (0 : Nat) = 0 := rfl
            have t3 : (0 : Nat) = 0 := rfl
            cases Gp
            · have e := hST.out
              rw [if_neg (by decide)] at e
              rw [e] at hnx hok2
              clear e hST hok hgp
              all_goals go_wp2
              all_goals (try go_region)
              all_goals (try go_wp2)
              all_goals go_roundw
              all_goals first | (simp [intOf]; omega) | (refine ⟨k + 1, ⟨si, sn, sd, sf⟩, _, _, _, by omega, by go_num, rfl, heq, hok2, hnx, by simp [go_sem, m1, m2, mz, t1, t2, t3], by simp [go_sem, m1, m2, mz, t1, t2, t3], by simp [go_sem, m3, mz, t3], by simp [go_sem, m4, mz, t3], by first | omega | (simp; omega), ?_⟩; (repeat (first | with_reducible exact Below.refl _ _ | with_reducible assumption | with_reducible refine balloc ?_ _ | with_reducible refine bdrew ?_ | with_reducible refine below_drewN ?_ _ | with_reducible refine bset ?_ ?_ _ | with_reducible exact Nat.le_refl _ | with_reducible refine bsize ?_ | (dsimp only; refine Nat.le_trans ?_ (Nat.le_add_right _ _)) | with_reducible refine Nat.le_trans ?_ (Nat.le_add_right _ _) | (with_reducible refine bstep ?_ (by assumption)))))
            · have e := hST.out
              rw [if_pos rfl] at e
              rw [e] at hnx hok2
              have ham := hgp rfl
              clear e hST hgp
              cases sf
              · have hb1 := (heq.out).2 rfl
                subst hb1
                rw [if_pos (Or.inl rfl)] at hnx hok2
                clear heq hok
                all_goals go_wp2
                all_goals (try go_region)
                all_goals (try go_wp2)
                all_goals go_roundw
                all_goals first | (simp [intOf]; omega) | (refine ⟨k + 1, ⟨k, Np, Vp, true⟩, _, _, _, by omega, by go_num, rfl, Lib.hid ⟨fun _ => ⟨rfl, rfl, rfl⟩, fun h => (by cases h)⟩, hok2, hnx, by simp [go_sem, m1, m2, mz, t1, t2, t3], by simp [go_sem, m1, m2, mz, t1, t2, t3], by simp [go_sem, m3, mz, t3], by simp [go_sem, m4, mz, t3], by first | omega | (simp; omega), ?_⟩; (repeat (first | with_reducible exact Below.refl _ _ | with_reducible assumption | with_reducible refine balloc ?_ _ | with_reducible refine bdrew ?_ | with_reducible refine below_drewN ?_ _ | with_reducible refine bset ?_ ?_ _ | with_reducible exact Nat.le_refl _ | with_reducible refine bsize ?_ | (dsimp only; refine Nat.le_trans ?_ (Nat.le_add_right _ _)) | with_reducible refine Nat.le_trans ?_ (Nat.le_add_right _ _) | (with_reducible refine bstep ?_ (by assumption)))))
              · obtain ⟨rfl, rfl, rfl⟩ := (heq.out).1 rfl
                have hi0 := hok.out.i0
                dsimp only at hi0
                have HM := Lib.hid (fun W => cmp_cm Np Vp mn md ham (hok.out.am rfl) W)
                generalize cmI Np Vp mn md = C at *
                go_wp2_with fail
                refine (HM.out _).mono ?_
                rintro e w7 ⟨rfl, hb7⟩
                have f7 : Below w6.heap.size w6 w7 := bstep (by (repeat (first | with_reducible exact Below.refl _ _ | with_reducible assumption | with_reducible refine balloc ?_ _ | with_reducible refine bdrew ?_ | with_reducible refine below_drewN ?_ _ | with_reducible refine bset ?_ ?_ _ | with_reducible exact Nat.le_refl _ | with_reducible refine bsize ?_ | (dsimp only; refine Nat.le_trans ?_ (Nat.le_add_right _ _)) | with_reducible refine Nat.le_trans ?_ (Nat.le_add_right _ _) | (with_reducible refine bstep ?_ (by assumption))))) hb7
                obtain ⟨kc7, kf7, kz7, ky7, kx7, kv7, ku7⟩ := bcell hb7
                have t1 : w7.cell? ⟨w6.heap.size, 0, none⟩ = some (.int .i64 Np) := by rw [kc7 _ _ (by simp)]; simp [go_sem]
                have t2 : w7.cell? ⟨w6.heap.size, 1, none⟩ = some (.int .i64 Vp) := by rw [kc7 _ _ (by simp)]; simp [go_sem]
                have t3 := kz7 w6.heap.size (by simp)
                clear kc7 kf7 kz7 ky7 kx7 kv7 ku7 hb7 HM ham
                replace m1 := keepa f7 mz m1
                replace m2 := keepa f7 mz m2
                replace m3 := keepz f7 mz m3
                replace m4 := keepz f7 mz m4
                replace mz := Nat.lt_of_lt_of_le mz f7.size
                replace hb := bstep hb f7
                clear f7
                by_cases hC : 0 < C
                · rw [if_pos (Or.inr hC)] at hnx hok2
                  clear heq hok
                  all_goals go_wp2
                  all_goals (try go_region)
                  all_goals (try go_wp2)
                  all_goals go_roundw
                  all_goals first | (simp [intOf]; omega) | (refine ⟨k + 1, ⟨k, Np, Vp, true⟩, _, _, _, by omega, by go_num, rfl, Lib.hid ⟨fun _ => ⟨rfl, rfl, rfl⟩, fun h => (by cases h)⟩, hok2, hnx, by simp [go_sem, m1, m2, mz, t1, t2, t3], by simp [go_sem, m1, m2, mz, t1, t2, t3], by simp [go_sem, m3, mz, t3], by simp [go_sem, m4, mz, t3], by first | omega | (simp; omega), ?_⟩; (repeat (first | with_reducible exact Below.refl _ _ | with_reducible assumption | with_reducible refine balloc ?_ _ | with_reducible refine bdrew ?_ | with_reducible refine below_drewN ?_ _ | with_reducible refine bset ?_ ?_ _ | with_reducible exact Nat.le_refl _ | with_reducible refine bsize ?_ | (dsimp only; refine Nat.le_trans ?_ (Nat.le_add_right _ _)) | with_reducible refine Nat.le_trans ?_ (Nat.le_add_right _ _) | (with_reducible refine bstep ?_ (by assumption)))))
                · rw [if_neg (by rintro (h | h); exact absurd h (by decide); exact hC h)] at hnx hok2
                  clear hok
                  all_goals go_wp2
                  all_goals (try go_region)
                  all_goals (try go_wp2)
                  all_goals go_roundw
                  all_goals first | (simp [intOf]; omega) | (refine ⟨k + 1, ⟨b, mn, md, true⟩, _, _, _, by omega, by go_num, rfl, Lib.hid ⟨fun _ => ⟨rfl, rfl, rfl⟩, fun h => (by cases h)⟩, hok2, hnx, by simp [go_sem, m1, m2, mz, t1, t2, t3], by simp [go_sem, m1, m2, mz, t1, t2, t3], by simp [go_sem, m3, mz, t3], by simp [go_sem, m4, mz, t3], by first | omega | (simp; omega), ?_⟩; (repeat (first | with_reducible exact Below.refl _ _ | with_reducible assumption | with_reducible refine balloc ?_ _ | with_reducible refine bdrew ?_ | with_reducible refine below_drewN ?_ _ | with_reducible refine bset ?_ ?_ _ | with_reducible exact Nat.le_refl _ | with_reducible refine bsize ?_ | (dsimp only; refine Nat.le_trans ?_ (Nat.le_add_right _ _)) | with_reducible refine Nat.le_trans ?_ (Nat.le_add_right _ _) | (with_reducible refine bstep ?_ (by assumption)))))
          · have hk' : k = l.length := by omega
            subst hk'
            have hR := Lib.hid (bs_end hfold.out)
            clear hfold
            obtain ⟨si, sn, sd, sf⟩ := sb
            dsimp only at *
            have hbz := bstep hbw hbel
            cases sf
            · have hb1 := (heq.out).2 rfl
              subst hb1
              have hn0 := hok.out.no rfl
              injection hn0 with q1 q2 q3 q4
              subst q1 q2 q3
              clear heq hok
              go_wp2
              all_goals (try go_region)
              all_goals (try go_wp2)
              all_goals refine bodyPost_ret (v := .tuple #[.int .i64 0, .bool false]) (by simp only [results, Try.results15]; go_simp) rfl ⟨by rw [hRR.out, ← hR.out], ?_⟩
              all_goals (repeat (first | with_reducible exact Below.refl _ _ | with_reducible assumption | with_reducible refine balloc ?_ _ | with_reducible refine bdrew ?_ | with_reducible refine below_drewN ?_ _ | with_reducible refine bset ?_ ?_ _ | with_reducible exact Nat.le_refl _ | with_reducible refine bsize ?_ | (dsimp only; refine Nat.le_trans ?_ (Nat.le_add_right _ _)) | with_reducible refine Nat.le_trans ?_ (Nat.le_add_right _ _) | (with_reducible refine bstep ?_ (by assumption))))
            · obtain ⟨rfl, rfl, rfl⟩ := (heq.out).1 rfl
              have hi0 := hok.out.i0
              dsimp only at hi0
              clear heq hok
              go_wp2
              all_goals (try go_region)
              all_goals (try go_wp2)
              all_goals refine bodyPost_ret (v := .tuple #[.int .i64 b, .bool true]) (by simp only [results, Try.results15]; go_simp) rfl ⟨by rw [hRR.out, ← hR.out], ?_⟩
              all_goals (repeat (first | with_reducible exact Below.refl _ _ | with_reducible assumption | with_reducible refine balloc ?_ _ | with_reducible refine bdrew ?_ | with_reducible refine below_drewN ?_ _ | with_reducible refine bset ?_ ?_ _ | with_reducible exact Nat.le_refl _ | with_reducible refine bsize ?_ | (dsimp only; refine Nat.le_trans ?_ (Nat.le_add_right _ _)) | with_reducible refine Nat.le_trans ?_ (Nat.le_add_right _ _) | (with_reducible refine bstep ?_ (by assumption))))
  · have e : bmR L E n d l = ⟨0, 0, 0, false⟩ := by unfold bmR chmB; simp [h20]
    rw [e]
    rw [h1] at HA
    dsimp only
    clear e h1
    go_enter Try.func15, Try.ntmps15
    (go_wp2_with fail; refine (HA.out _).mono ?_; rintro e w1 ⟨rfl, hb1⟩; have ha1 := hb1; obtain ⟨kc1, kf1, kz1, ky1, kx1, kv1, ku1⟩ := bcell hb1)
    go_wp2
    refine bodyPost_ret (v := .tuple #[.int .i64 0, .bool false]) (by simp only [results, Try.results15]; go_simp) rfl ⟨rfl, ?_⟩
    (repeat (first | with_reducible exact Below.refl _ _ | with_reducible assumption | with_reducible refine balloc ?_ _ | with_reducible refine bdrew ?_ | with_reducible refine below_drewN ?_ _ | with_reducible refine bset ?_ ?_ _ | with_reducible exact Nat.le_refl _ | with_reducible refine bsize ?_ | (dsimp only; refine Nat.le_trans ?_ (Nat.le_add_right _ _)) | with_reducible refine Nat.le_trans ?_ (Nat.le_add_right _ _) | (with_reducible refine bstep ?_ (by assumption))))
theorem bestMarket_spec_nil (L E n d : Int) (bn : -9223372036854775808 ≤ n ∧ n ≤ 9223372036854775807) (bd : -9223372036854775808 ≤ d ∧ d ≤ 9223372036854775807) (w : World) :
    Calls Try.prog 15 #[.agg #[.int .i64 L, .int .i64 E], .agg #[.int .i64 n, .int .i64 d], .slice none 0 0] w fun e w' => e = .returned (.tuple #[.int .i64 0, .bool false]) ∧ Below w.heap.size w w' := by
  have HA := Lib.hid (fun W => ask_spec L E n d bn bd W)
  cases h1 : askB L E n d
  · rw [h1] at HA
    clear h1
    go_enter Try.func15, Try.ntmps15
    (go_wp2_with fail; refine (HA.out _).mono ?_; rintro e w1 ⟨rfl, hb1⟩; have ha1 := hb1; obtain ⟨kc1, kf1, kz1, ky1, kx1, kv1, ku1⟩ := bcell hb1)
    go_wp2
    refine bodyPost_ret (v := .tuple #[.int .i64 0, .bool false]) (by simp only [results, Try.results15]; go_simp) rfl ⟨rfl, ?_⟩
    (repeat (first | with_reducible exact Below.refl _ _ | with_reducible assumption | with_reducible refine balloc ?_ _ | with_reducible refine bdrew ?_ | with_reducible refine below_drewN ?_ _ | with_reducible refine bset ?_ ?_ _ | with_reducible exact Nat.le_refl _ | with_reducible refine bsize ?_ | (dsimp only; refine Nat.le_trans ?_ (Nat.le_add_right _ _)) | with_reducible refine Nat.le_trans ?_ (Nat.le_add_right _ _) | (with_reducible refine bstep ?_ (by assumption))))
  · rw [h1] at HA
    clear h1
    go_enter Try.func15, Try.ntmps15
    (go_wp2_with fail; refine (HA.out _).mono ?_; rintro e w1 ⟨rfl, hb1⟩; have ha1 := hb1; obtain ⟨kc1, kf1, kz1, ky1, kx1, kv1, ku1⟩ := bcell hb1)
    have hbw : Below w.heap.size w w1 := by (repeat (first | with_reducible exact Below.refl _ _ | with_reducible assumption | with_reducible refine balloc ?_ _ | with_reducible refine bdrew ?_ | with_reducible refine below_drewN ?_ _ | with_reducible refine bset ?_ ?_ _ | with_reducible exact Nat.le_refl _ | with_reducible refine bsize ?_ | (dsimp only; refine Nat.le_trans ?_ (Nat.le_add_right _ _)) | with_reducible refine Nat.le_trans ?_ (Nat.le_add_right _ _) | (with_reducible refine bstep ?_ (by assumption))))
    clear ha1 hb1
    go_wp2
    go_loopw [27] (fun i wr => i = .int .i64 0 ∧ wr = w1) (fun _ _ => 0)
    case atStart => exact ⟨rfl, rfl⟩
    case round =>
      obtain ⟨rfl, rfl⟩ := hrel
      (go_wp2_with fail; refine (whole_b2 0 _).mono ?_; rintro e w4 ⟨rfl, hb4⟩; (have ha4 : Below w.heap.size w w4 := by (repeat (first | with_reducible exact Below.refl _ _ | with_reducible assumption | with_reducible refine balloc ?_ _ | with_reducible refine bdrew ?_ | with_reducible refine below_drewN ?_ _ | with_reducible refine bset ?_ ?_ _ | with_reducible exact Nat.le_refl _ | with_reducible refine bsize ?_ | (dsimp only; refine Nat.le_trans ?_ (Nat.le_add_right _ _)) | with_reducible refine Nat.le_trans ?_ (Nat.le_add_right _ _) | (with_reducible refine bstep ?_ (by assumption))))); obtain ⟨kc4, kf4, kz4, ky4, kx4, kv4, ku4⟩ := bcell hb4)
      go_wp2
      go_loopw [10, 38] (fun bs i wr => bs = .int .i64 (-1) ∧ i = .int .i64 0 ∧ Below w4.heap.size w4 wr) (fun _ _ _ => 0)
      case atStart => exact ⟨rfl, rfl, by (repeat (first | with_reducible exact Below.refl _ _ | with_reducible assumption | with_reducible refine balloc ?_ _ | with_reducible refine bdrew ?_ | with_reducible refine below_drewN ?_ _ | with_reducible refine bset ?_ ?_ _ | with_reducible exact Nat.le_refl _ | with_reducible refine bsize ?_ | (dsimp only; refine Nat.le_trans ?_ (Nat.le_add_right _ _)) | with_reducible refine Nat.le_trans ?_ (Nat.le_add_right _ _) | (with_reducible refine bstep ?_ (by assumption))))⟩
      case round =>
        obtain ⟨rfl, rfl, hbel⟩ := hrel
        have hz := bstep ha4 hbel
        go_wp2
        refine bodyPost_ret (v := .tuple #[.int .i64 0, .bool false]) (by simp only [results, Try.results15]; go_simp) rfl ⟨rfl, ?_⟩
        (repeat (first | with_reducible exact Below.refl _ _ | with_reducible assumption | with_reducible refine balloc ?_ _ | with_reducible refine bdrew ?_ | with_reducible refine below_drewN ?_ _ | with_reducible refine bset ?_ ?_ _ | with_reducible exact Nat.le_refl _ | with_reducible refine bsize ?_ | (dsimp only; refine Nat.le_trans ?_ (Nat.le_add_right _ _)) | with_reducible refine Nat.le_trans ?_ (Nat.le_add_right _ _) | (with_reducible refine bstep ?_ (by assumption))))
theorem bestMarket_spec (L E n d : Int) (bn : -9223372036854775808 ≤ n ∧ n ≤ 9223372036854775807) (bd : -9223372036854775808 ≤ d ∧ d ≤ 9223372036854775807) (v : Value) (l : List MarketV) (w : World) (h : RowG 4 fMarket w v l) :
    Calls Try.prog 15 #[.agg #[.int .i64 L, .int .i64 E], .agg #[.int .i64 n, .int .i64 d], v] w fun e w' => e = .returned (.tuple #[.int .i64 (bmR L E n d l).i, .bool (bmR L E n d l).f]) ∧ Below w.heap.size w w' := by
  rcases h with ⟨rfl, rfl⟩ | ⟨a, cap, rfl, hL⟩
  · have e : bmR L E n d [] = ⟨0, 0, 0, false⟩ := by unfold bmR; split <;> rfl
    rw [e]
    exact bestMarket_spec_nil L E n d bn bd w
  · exact bestMarket_spec_some L E n d bn bd a cap l w hL
end Go.Proofs.Ytgmgifgbalcngaa
