/- Camels: EarnedAt on both sides. -/
import Derived.Test.YtgmgifgbalcngaaCamK
import Derived.Test.YtgmgifgbalcngaaMarkT
import Derived.Test.YtgmgifgbalcngaaReck3
import Derived.Test.YtgmgifgbalcngaaPubS3
namespace Go.Proofs.Ytgmgifgbalcngaa
open Go.ChangeShapes Go.WideShapes Go.ChangeAt Go.RowKit Go.Joins
set_option maxRecDepth 100000
set_option linter.unusedVariables false
set_option linter.unusedSimpArgs false

/-- What is left there, times the price. -/
def eaB (L E n d p q : Int) : Bool := twoB (leftAtK L E n d p q) (leftAtX L E n d p q) (leftAtM L E n d p q)
def eaN (L E n d p q : Int) : Int := twoN (leftAtK L E n d p q) (leftAtX L E n d p q) (leftAtM L E n d p q)
def eaD (L E n d p q : Int) : Int := twoD (leftAtK L E n d p q) (leftAtX L E n d p q) (leftAtM L E n d p q)
def eaK (L E n d p q r s : Int) : Bool := eaB L E n d p q && okk (eaN L E n d p q) (eaD L E n d p q) r s
def eaX (L E n d p q r s : Int) : Int := eaN L E n d p q * r
def eaM (L E n d p q r s : Int) : Int := eaD L E n d p q * s
theorem low_b (n d : Int) : (0 ≤ lowN n d ∧ lowN n d ≤ 1000000000) ∧ 0 ≤ lowD n d ∧ lowD n d ≤ 1000000000 := by
  cases h : lowB n d
  · simp [lowN, lowD, h]
  · have := (amB_iff _ _).1 (amB_low n d h); omega
theorem two_b (k : Bool) (n d : Int) : (0 ≤ twoN k n d ∧ twoN k n d ≤ 1000000000) ∧ 0 ≤ twoD k n d ∧ twoD k n d ≤ 1000000000 := by
  cases k
  · simp [twoN, twoD]
  · simpa [twoN, twoD] using low_b n d
set_option maxHeartbeats 1600000 in
theorem earned_impl (L E n d p q r s : Int) (bn : -9223372036854775808 ≤ n ∧ n ≤ 9223372036854775807) (bd : -9223372036854775808 ≤ d ∧ d ≤ 9223372036854775807) (bp : -9223372036854775808 ≤ p ∧ p ≤ 9223372036854775807) (bq : -9223372036854775808 ≤ q ∧ q ≤ 9223372036854775807) (br : -9223372036854775808 ≤ r ∧ r ≤ 9223372036854775807) (bs : -9223372036854775808 ≤ s ∧ s ≤ 9223372036854775807) (w : World) :
    Calls Try.prog 41 #[.agg #[.int .i64 L, .int .i64 E], .agg #[.int .i64 n, .int .i64 d], .agg #[.int .i64 p, .int .i64 q, .int .i64 r, .int .i64 s]] w fun e w' => e = .returned (.tuple #[.agg #[.int .i64 (twoN (eaK L E n d p q r s) (eaX L E n d p q r s) (eaM L E n d p q r s)), .int .i64 (twoD (eaK L E n d p q r s) (eaX L E n d p q r s) (eaM L E n d p q r s))], .bool (twoB (eaK L E n d p q r s) (eaX L E n d p q r s) (eaM L E n d p q r s))]) ∧ Below w.heap.size w w' := by
  have HL := Lib.hid (fun W => leftAt_pub L E n d p q bn bd bp bq W)
  have hb := two_b (leftAtK L E n d p q) (leftAtX L E n d p q) (leftAtM L E n d p q)
  have HM := Lib.hid (fun W => times_pub_impl (eaN L E n d p q) (eaD L E n d p q) r s (by unfold eaN; omega) (by unfold eaD; omega) br bs W)
  have eN : twoN (leftAtK L E n d p q) (leftAtX L E n d p q) (leftAtM L E n d p q) = eaN L E n d p q := rfl
  have eD : twoD (leftAtK L E n d p q) (leftAtX L E n d p q) (leftAtM L E n d p q) = eaD L E n d p q := rfl
  have eB : twoB (leftAtK L E n d p q) (leftAtX L E n d p q) (leftAtM L E n d p q) = eaB L E n d p q := rfl
  rw [eN, eD, eB] at HL
  clear hb eN eD eB
  unfold eaK eaX eaM
  generalize eaN L E n d p q = N at *
  generalize eaD L E n d p q = V at *
  cases hB : eaB L E n d p q
  · rw [Bool.false_and, (two_no _ _).1, (two_no _ _).2.1, (two_no _ _).2.2]
    rw [hB] at HL
    clear hB HM
    go_enter Try.func41, Try.ntmps41
    (go_wp2_with fail; refine (HL.out _).mono ?_; rintro e w1 ⟨rfl, hb1⟩; have ha1 := hb1; obtain ⟨kc1, kf1, kz1, ky1, kx1, kv1, ku1⟩ := bcell hb1)
    have r1 : w1.cell? ⟨w.heap.size + 1 + 1 + 1, 0, none⟩ = some (.int .i64 0) := (by rw [kc1 (w.heap.size + 1 + 1 + 1) _ (by first | (simp; done) | (simp; omega))]; first | (simp; done) | (simp [go_sem]; done)); have r2 : w1.cell? ⟨w.heap.size + 1 + 1 + 1, 1, none⟩ = some (.int .i64 0) := (by rw [kc1 (w.heap.size + 1 + 1 + 1) _ (by first | (simp; done) | (simp; omega))]; first | (simp; done) | (simp [go_sem]; done)); have r3 : w1.frozen? ⟨w.heap.size + 1 + 1 + 1, 0, none⟩ = false := (by rw [kf1 (w.heap.size + 1 + 1 + 1) _ (by first | (simp; done) | (simp; omega))]; first | (simp; done) | (simp [go_sem]; done)); have r4 : w1.frozen? ⟨w.heap.size + 1 + 1 + 1, 1, none⟩ = false := (by rw [kf1 (w.heap.size + 1 + 1 + 1) _ (by first | (simp; done) | (simp; omega))]; first | (simp; done) | (simp [go_sem]; done)); have rz : w.heap.size + 1 + 1 + 1 < w1.heap.size := kz1 (w.heap.size + 1 + 1 + 1) (by first | (simp; done) | (simp; omega))
    go_wp2
    refine bodyPost_ret (v := .tuple #[.agg #[.int .i64 0, .int .i64 0], .bool false]) (by simp only [results, Try.results41]; go_simp) rfl ⟨rfl, ?_⟩
    (repeat (first | with_reducible exact Below.refl _ _ | with_reducible assumption | with_reducible refine balloc ?_ _ | with_reducible refine bdrew ?_ | with_reducible refine below_drewN ?_ _ | with_reducible refine bset ?_ ?_ _ | with_reducible exact Nat.le_refl _ | with_reducible refine bsize ?_ | (dsimp only; refine Nat.le_trans ?_ (Nat.le_add_right _ _)) | with_reducible refine Nat.le_trans ?_ (Nat.le_add_right _ _) | (with_reducible refine bstep ?_ (by assumption))))
  · rw [Bool.true_and]
    rw [hB] at HL
    clear hB
    generalize twoN (okk N V r s) (N * r) (V * s) = X at *
    generalize twoD (okk N V r s) (N * r) (V * s) = Y at *
    generalize twoB (okk N V r s) (N * r) (V * s) = B at *
    go_enter Try.func41, Try.ntmps41
    (go_wp2_with fail; refine (HL.out _).mono ?_; rintro e w1 ⟨rfl, hb1⟩; have ha1 := hb1; obtain ⟨kc1, kf1, kz1, ky1, kx1, kv1, ku1⟩ := bcell hb1)
    have r1 : w1.cell? ⟨w.heap.size + 1 + 1 + 1, 0, none⟩ = some (.int .i64 0) := (by rw [kc1 (w.heap.size + 1 + 1 + 1) _ (by first | (simp; done) | (simp; omega))]; first | (simp; done) | (simp [go_sem]; done)); have r2 : w1.cell? ⟨w.heap.size + 1 + 1 + 1, 1, none⟩ = some (.int .i64 0) := (by rw [kc1 (w.heap.size + 1 + 1 + 1) _ (by first | (simp; done) | (simp; omega))]; first | (simp; done) | (simp [go_sem]; done)); have r3 : w1.frozen? ⟨w.heap.size + 1 + 1 + 1, 0, none⟩ = false := (by rw [kf1 (w.heap.size + 1 + 1 + 1) _ (by first | (simp; done) | (simp; omega))]; first | (simp; done) | (simp [go_sem]; done)); have r4 : w1.frozen? ⟨w.heap.size + 1 + 1 + 1, 1, none⟩ = false := (by rw [kf1 (w.heap.size + 1 + 1 + 1) _ (by first | (simp; done) | (simp; omega))]; first | (simp; done) | (simp [go_sem]; done)); have rz : w.heap.size + 1 + 1 + 1 < w1.heap.size := kz1 (w.heap.size + 1 + 1 + 1) (by first | (simp; done) | (simp; omega))
    (go_wp2_with fail; refine (HM.out _).mono ?_; rintro e w2 ⟨rfl, hb2⟩; (have ha2 : Below w.heap.size w w2 := by (repeat (first | with_reducible exact Below.refl _ _ | with_reducible assumption | with_reducible refine balloc ?_ _ | with_reducible refine bdrew ?_ | with_reducible refine below_drewN ?_ _ | with_reducible refine bset ?_ ?_ _ | with_reducible exact Nat.le_refl _ | with_reducible refine bsize ?_ | (dsimp only; refine Nat.le_trans ?_ (Nat.le_add_right _ _)) | with_reducible refine Nat.le_trans ?_ (Nat.le_add_right _ _) | (with_reducible refine bstep ?_ (by assumption))))); obtain ⟨kc2, kf2, kz2, ky2, kx2, kv2, ku2⟩ := bcell hb2)
    (have rb : Below w1.heap.size w1 w2 := bstep (by (repeat (first | with_reducible exact Below.refl _ _ | with_reducible assumption | with_reducible refine balloc ?_ _ | with_reducible refine bdrew ?_ | with_reducible refine below_drewN ?_ _ | with_reducible refine bset ?_ ?_ _ | with_reducible exact Nat.le_refl _ | with_reducible refine bsize ?_ | (dsimp only; refine Nat.le_trans ?_ (Nat.le_add_right _ _)) | with_reducible refine Nat.le_trans ?_ (Nat.le_add_right _ _) | (with_reducible refine bstep ?_ (by assumption))))) hb2); replace r1 := keepa rb rz r1; replace r2 := keepa rb rz r2; replace r3 := keepz rb rz r3; replace r4 := keepz rb rz r4; replace rz := Nat.lt_of_lt_of_le rz rb.size; clear rb
    go_wp2
    refine bodyPost_ret (v := .tuple #[.agg #[.int .i64 X, .int .i64 Y], .bool B]) (by simp only [results, Try.results41]; go_simp) rfl ⟨rfl, ?_⟩
    (repeat (first | with_reducible exact Below.refl _ _ | with_reducible assumption | with_reducible refine balloc ?_ _ | with_reducible refine bdrew ?_ | with_reducible refine below_drewN ?_ _ | with_reducible refine bset ?_ ?_ _ | with_reducible exact Nat.le_refl _ | with_reducible refine bsize ?_ | (dsimp only; refine Nat.le_trans ?_ (Nat.le_add_right _ _)) | with_reducible refine Nat.le_trans ?_ (Nat.le_add_right _ _) | (with_reducible refine bstep ?_ (by assumption))))
set_option maxHeartbeats 1600000 in
theorem caEarned_spec (L E n d p q r s : Int) (t : Nat) (H : CamIn L E d n t) (ht : trp (L * d) n = t) (hk : leftAtK L E n d p q = true) (p0 : 0 ≤ p) (p1 : p ≤ 1000000000) (q0 : 1 ≤ q) (q1 : q ≤ 1000000) (hp : amB r s = true) (w : World) :
    Calls Try.prog 35 #[.agg #[.int .i64 L, .int .i64 E], .agg #[.int .i64 n, .int .i64 d], .agg #[.int .i64 p, .int .i64 q, .int .i64 r, .int .i64 s]] w fun e w' => e = .returned (.tuple #[.agg #[.int .i64 (twoN (eaK L E n d p q r s) (eaX L E n d p q r s) (eaM L E n d p q r s)), .int .i64 (twoD (eaK L E n d p q r s) (eaX L E n d p q r s) (eaM L E n d p q r s))], .bool (twoB (eaK L E n d p q r s) (eaX L E n d p q r s) (eaM L E n d p q r s))]) ∧ Below w.heap.size w w' := by
  have HL := Lib.hid (fun W => caLeft_spec L E n d p q t H ht p0 p1 q0 q1 W)
  have eN : eaN L E n d p q = lowN (leftAtX L E n d p q) (leftAtM L E n d p q) := by unfold eaN; rw [hk]; exact (two_yes _ _).1
  have eD : eaD L E n d p q = lowD (leftAtX L E n d p q) (leftAtM L E n d p q) := by unfold eaD; rw [hk]; exact (two_yes _ _).2.1
  have eB : eaB L E n d p q = lowB (leftAtX L E n d p q) (leftAtM L E n d p q) := by unfold eaB; rw [hk]; exact (two_yes _ _).2.2
  unfold eaK eaX eaM
  rw [eN, eD, eB]
  cases hB : lowB (leftAtX L E n d p q) (leftAtM L E n d p q)
  · rw [Bool.false_and, (two_no _ _).1, (two_no _ _).2.1, (two_no _ _).2.2]
    rw [hB] at HL
    generalize lowN (leftAtX L E n d p q) (leftAtM L E n d p q) = N at *
    generalize lowD (leftAtX L E n d p q) (leftAtM L E n d p q) = V at *
    clear hB eN eD eB H ht hk
    go_enter Try.func35, Try.ntmps35
    (go_wp2_with fail; refine (HL.out _).mono ?_; rintro e w1 ⟨rfl, hb1⟩; have ha1 := hb1; obtain ⟨kc1, kf1, kz1, ky1, kx1, kv1, ku1⟩ := bcell hb1)
    have r1 : w1.cell? ⟨w.heap.size + 1 + 1 + 1, 0, none⟩ = some (.int .i64 0) := (by rw [kc1 (w.heap.size + 1 + 1 + 1) _ (by first | (simp; done) | (simp; omega))]; first | (simp; done) | (simp [go_sem]; done)); have r2 : w1.cell? ⟨w.heap.size + 1 + 1 + 1, 1, none⟩ = some (.int .i64 0) := (by rw [kc1 (w.heap.size + 1 + 1 + 1) _ (by first | (simp; done) | (simp; omega))]; first | (simp; done) | (simp [go_sem]; done)); have r3 : w1.frozen? ⟨w.heap.size + 1 + 1 + 1, 0, none⟩ = false := (by rw [kf1 (w.heap.size + 1 + 1 + 1) _ (by first | (simp; done) | (simp; omega))]; first | (simp; done) | (simp [go_sem]; done)); have r4 : w1.frozen? ⟨w.heap.size + 1 + 1 + 1, 1, none⟩ = false := (by rw [kf1 (w.heap.size + 1 + 1 + 1) _ (by first | (simp; done) | (simp; omega))]; first | (simp; done) | (simp [go_sem]; done)); have rz : w.heap.size + 1 + 1 + 1 < w1.heap.size := kz1 (w.heap.size + 1 + 1 + 1) (by first | (simp; done) | (simp; omega))
    go_wp2
    refine bodyPost_ret (v := .tuple #[.agg #[.int .i64 0, .int .i64 0], .bool false]) (by simp only [results, Try.results35]; go_simp) rfl ⟨rfl, ?_⟩
    (repeat (first | with_reducible exact Below.refl _ _ | with_reducible assumption | with_reducible refine balloc ?_ _ | with_reducible refine bdrew ?_ | with_reducible refine below_drewN ?_ _ | with_reducible refine bset ?_ ?_ _ | with_reducible exact Nat.le_refl _ | with_reducible refine bsize ?_ | (dsimp only; refine Nat.le_trans ?_ (Nat.le_add_right _ _)) | with_reducible refine Nat.le_trans ?_ (Nat.le_add_right _ _) | (with_reducible refine bstep ?_ (by assumption))))
  · have ha := amB_low _ _ hB
    have hok : okk (lowN (leftAtX L E n d p q) (leftAtM L E n d p q)) (lowD (leftAtX L E n d p q) (leftAtM L E n d p q)) r s = true := by unfold okk; rw [ha, hp]; rfl
    rw [Bool.true_and, hok, (two_yes _ _).1, (two_yes _ _).2.1, (two_yes _ _).2.2]
    have HM := Lib.hid (fun W => amTimes_spec _ _ r s (am_of _ _ ha) (am_of r s hp) W)
    rw [hB] at HL
    generalize lowN (leftAtX L E n d p q) (leftAtM L E n d p q) = N at *
    generalize lowD (leftAtX L E n d p q) (leftAtM L E n d p q) = V at *
    generalize N * r = X at *
    generalize V * s = M at *
    clear hB eN eD eB H ht hk ha hok
    go_enter Try.func35, Try.ntmps35
    (go_wp2_with fail; refine (HL.out _).mono ?_; rintro e w1 ⟨rfl, hb1⟩; have ha1 := hb1; obtain ⟨kc1, kf1, kz1, ky1, kx1, kv1, ku1⟩ := bcell hb1)
    have r1 : w1.cell? ⟨w.heap.size + 1 + 1 + 1, 0, none⟩ = some (.int .i64 0) := (by rw [kc1 (w.heap.size + 1 + 1 + 1) _ (by first | (simp; done) | (simp; omega))]; first | (simp; done) | (simp [go_sem]; done)); have r2 : w1.cell? ⟨w.heap.size + 1 + 1 + 1, 1, none⟩ = some (.int .i64 0) := (by rw [kc1 (w.heap.size + 1 + 1 + 1) _ (by first | (simp; done) | (simp; omega))]; first | (simp; done) | (simp [go_sem]; done)); have r3 : w1.frozen? ⟨w.heap.size + 1 + 1 + 1, 0, none⟩ = false := (by rw [kf1 (w.heap.size + 1 + 1 + 1) _ (by first | (simp; done) | (simp; omega))]; first | (simp; done) | (simp [go_sem]; done)); have r4 : w1.frozen? ⟨w.heap.size + 1 + 1 + 1, 1, none⟩ = false := (by rw [kf1 (w.heap.size + 1 + 1 + 1) _ (by first | (simp; done) | (simp; omega))]; first | (simp; done) | (simp [go_sem]; done)); have rz : w.heap.size + 1 + 1 + 1 < w1.heap.size := kz1 (w.heap.size + 1 + 1 + 1) (by first | (simp; done) | (simp; omega))
    (go_wp2_with fail; refine (HM.out _).mono ?_; rintro e w2 ⟨rfl, hb2⟩; (have ha2 : Below w.heap.size w w2 := by (repeat (first | with_reducible exact Below.refl _ _ | with_reducible assumption | with_reducible refine balloc ?_ _ | with_reducible refine bdrew ?_ | with_reducible refine below_drewN ?_ _ | with_reducible refine bset ?_ ?_ _ | with_reducible exact Nat.le_refl _ | with_reducible refine bsize ?_ | (dsimp only; refine Nat.le_trans ?_ (Nat.le_add_right _ _)) | with_reducible refine Nat.le_trans ?_ (Nat.le_add_right _ _) | (with_reducible refine bstep ?_ (by assumption))))); obtain ⟨kc2, kf2, kz2, ky2, kx2, kv2, ku2⟩ := bcell hb2)
    (have rb : Below w1.heap.size w1 w2 := bstep (by (repeat (first | with_reducible exact Below.refl _ _ | with_reducible assumption | with_reducible refine balloc ?_ _ | with_reducible refine bdrew ?_ | with_reducible refine below_drewN ?_ _ | with_reducible refine bset ?_ ?_ _ | with_reducible exact Nat.le_refl _ | with_reducible refine bsize ?_ | (dsimp only; refine Nat.le_trans ?_ (Nat.le_add_right _ _)) | with_reducible refine Nat.le_trans ?_ (Nat.le_add_right _ _) | (with_reducible refine bstep ?_ (by assumption))))) hb2); replace r1 := keepa rb rz r1; replace r2 := keepa rb rz r2; replace r3 := keepz rb rz r3; replace r4 := keepz rb rz r4; replace rz := Nat.lt_of_lt_of_le rz rb.size; clear rb
    go_wp2
    refine bodyPost_ret (v := .tuple #[.agg #[.int .i64 (lowN (X) (M)), .int .i64 (lowD (X) (M))], .bool (lowB (X) (M))]) (by simp only [results, Try.results35]; go_simp) rfl ⟨rfl, ?_⟩
    (repeat (first | with_reducible exact Below.refl _ _ | with_reducible assumption | with_reducible refine balloc ?_ _ | with_reducible refine bdrew ?_ | with_reducible refine below_drewN ?_ _ | with_reducible refine bset ?_ ?_ _ | with_reducible exact Nat.le_refl _ | with_reducible refine bsize ?_ | (dsimp only; refine Nat.le_trans ?_ (Nat.le_add_right _ _)) | with_reducible refine Nat.le_trans ?_ (Nat.le_add_right _ _) | (with_reducible refine bstep ?_ (by assumption))))
theorem ea_no (L E n d p q r s : Int) (h : (askB L E n d && mktB p q r s) = false) : twoN (eaK L E n d p q r s) (eaX L E n d p q r s) (eaM L E n d p q r s) = 0 ∧ twoD (eaK L E n d p q r s) (eaX L E n d p q r s) (eaM L E n d p q r s) = 0 ∧ twoB (eaK L E n d p q r s) (eaX L E n d p q r s) (eaM L E n d p q r s) = false := by
  have hk : eaK L E n d p q r s = false := by
    unfold eaK
    cases hB : eaB L E n d p q
    · rfl
    · unfold eaB at hB
      cases hl : leftAtK L E n d p q
      · rw [hl] at hB; simp [twoB] at hB
      · unfold leftAtK at hl
        unfold mktB at h
        rw [Bool.and_eq_true] at hl
        rw [hl.1, hl.2] at h
        simp at h
        unfold okk; rw [h]; simp
  rw [hk]; exact two_no _ _
end Go.Proofs.Ytgmgifgbalcngaa
