/- Two columns that pass: of the program and of the model. -/
import Derived.Test.YthfaljninmcopaaCavA
import Derived.Test.YthfaljninmcopaaCam5
import Derived.Test.YthfaljninmcopaaCavM
namespace Go.Proofs.Ythfaljninmcopaa
open Go.ChangeShapes Go.WideShapes Go.ChangeAt Go.RowKit Go.Joins
set_option maxRecDepth 100000
set_option linter.unusedVariables false
set_option linter.unusedSimpArgs false

def ptK (l s o t : Int) : Bool := trP l && trP s && trP o && trP t
def ptD (s t : Int) (q : Bool) : Int := if q = true then max (s - t) (-(s - t)) else s + t
theorem ptK_yes {l s o t : Int} (h : ptK l s o t = true) : (1 ≤ l ∧ l ≤ 1000) ∧ (1 ≤ s ∧ s ≤ 1000) ∧ (1 ≤ o ∧ o ≤ 1000) ∧ 1 ≤ t ∧ t ≤ 1000 := by
  simp [ptK, trP, inB] at h; omega
set_option maxHeartbeats 6400000 in
theorem pass_impl (l s o t : Int) (q : Bool) (b0 : -9223372036854775808 ≤ l ∧ l ≤ 9223372036854775807) (b1 : -9223372036854775808 ≤ s ∧ s ≤ 9223372036854775807) (b2 : -9223372036854775808 ≤ o ∧ o ≤ 9223372036854775807) (b3 : -9223372036854775808 ≤ t ∧ t ≤ 9223372036854775807) (w : World) :
    Calls Try.prog 35 #[.int .i64 l, .int .i64 s, .int .i64 o, .int .i64 t, .bool q] w fun e w' => e = .returned (.tuple #[.agg #[.int .i64 (twoN (ptK l s o t) (l + o) (ptD s t q)), .int .i64 (twoD (ptK l s o t) (l + o) (ptD s t q))], .bool (twoB (ptK l s o t) (l + o) (ptD s t q))]) ∧ Below w.heap.size w w' := by
  have HT := Lib.hid (fun g W h0 h1 h2 h3 => tr4 l s o t b0 b1 b2 b3 g W h0 h1 h2 h3)
  cases hk : ptK l s o t
  · rw [(two_no (l + o) (ptD s t q)).1, (two_no (l + o) (ptD s t q)).2.1, (two_no (l + o) (ptD s t q)).2.2]
    have e : (trP l && trP s && trP o && trP t) = false := hk
    rw [e] at HT
    clear hk e
    go_enter Try.func35, Try.ntmps35
    go_wp2_with fail
    refine (HT.out _ _ (by simp [go_sem]) (by simp [go_sem]) (by simp [go_sem]) (by simp [go_sem])).mono ?_
    rintro e w1 ⟨rfl, hb1⟩
    obtain ⟨kc1, kf1, kz1, ky1, kx1, kv1, ku1⟩ := bcell hb1
    have r1 : w1.cell? ⟨w.heap.size, 0, none⟩ = some (.int .i64 0) := (by rw [kc1 (w.heap.size) _ (by first | (simp; done) | (simp; omega))]; first | (simp; done) | (simp [go_sem]; done)); have r2 : w1.cell? ⟨w.heap.size, 1, none⟩ = some (.int .i64 0) := (by rw [kc1 (w.heap.size) _ (by first | (simp; done) | (simp; omega))]; first | (simp; done) | (simp [go_sem]; done)); have r3 : w1.frozen? ⟨w.heap.size, 0, none⟩ = false := (by rw [kf1 (w.heap.size) _ (by first | (simp; done) | (simp; omega))]; first | (simp; done) | (simp [go_sem]; done)); have r4 : w1.frozen? ⟨w.heap.size, 1, none⟩ = false := (by rw [kf1 (w.heap.size) _ (by first | (simp; done) | (simp; omega))]; first | (simp; done) | (simp [go_sem]; done)); have rz : w.heap.size < w1.heap.size := kz1 (w.heap.size) (by first | (simp; done) | (simp; omega))
    clear kc1 kf1 kz1 ky1 kx1 kv1 ku1
    go_wp2
    refine bodyPost_ret (v := .tuple #[.agg #[.int .i64 0, .int .i64 0], .bool false]) (by simp only [results, Try.results35]; go_simp) rfl ⟨rfl, ?_⟩
    (repeat (first | with_reducible exact Below.refl _ _ | with_reducible assumption | with_reducible refine balloc ?_ _ | with_reducible refine bdrew ?_ | with_reducible refine below_drewN ?_ _ | with_reducible refine bset ?_ ?_ _ | with_reducible exact Nat.le_refl _ | with_reducible refine bsize ?_ | (dsimp only; refine Nat.le_trans ?_ (Nat.le_add_right _ _)) | with_reducible refine Nat.le_trans ?_ (Nat.le_add_right _ _) | (with_reducible refine bstep ?_ (by assumption))))
  · rw [(two_yes (l + o) (ptD s t q)).1, (two_yes (l + o) (ptD s t q)).2.1, (two_yes (l + o) (ptD s t q)).2.2]
    obtain ⟨l1, s1, o1, t1⟩ := ptK_yes hk
    have e : (trP l && trP s && trP o && trP t) = true := hk
    rw [e] at HT
    clear hk e
    obtain ⟨D, hD⟩ : ∃ D, D = ptD s t q := ⟨_, rfl⟩
    have HF := Lib.hid (fun W (h0 : 0 ≤ D ∧ D ≤ 3000) g h1 h2 => tf2 D l o (by omega) (by omega) (by omega) g W h1 h2)
    have hD2 : D = if q = true then max s t - min s t else s + t := by rw [hD]; unfold ptD; split <;> omega
    rw [← hD]
    clear hD
    cases q
    · have hD3 : D = s + t := hD2
      subst hD3
      clear hD2
      go_enter Try.func35, Try.ntmps35
      go_wp2_with fail
      refine (HT.out _ _ (by simp [go_sem]) (by simp [go_sem]) (by simp [go_sem]) (by simp [go_sem])).mono ?_
      rintro e w1 ⟨rfl, hb1⟩
      obtain ⟨kc1, kf1, kz1, ky1, kx1, kv1, ku1⟩ := bcell hb1
      have r1 : w1.cell? ⟨w.heap.size, 0, none⟩ = some (.int .i64 0) := (by rw [kc1 (w.heap.size) _ (by first | (simp; done) | (simp; omega))]; first | (simp; done) | (simp [go_sem]; done)); have r2 : w1.cell? ⟨w.heap.size, 1, none⟩ = some (.int .i64 0) := (by rw [kc1 (w.heap.size) _ (by first | (simp; done) | (simp; omega))]; first | (simp; done) | (simp [go_sem]; done)); have r3 : w1.frozen? ⟨w.heap.size, 0, none⟩ = false := (by rw [kf1 (w.heap.size) _ (by first | (simp; done) | (simp; omega))]; first | (simp; done) | (simp [go_sem]; done)); have r4 : w1.frozen? ⟨w.heap.size, 1, none⟩ = false := (by rw [kf1 (w.heap.size) _ (by first | (simp; done) | (simp; omega))]; first | (simp; done) | (simp [go_sem]; done)); have rz : w.heap.size < w1.heap.size := kz1 (w.heap.size) (by first | (simp; done) | (simp; omega))
      clear kc1 kf1 kz1 ky1 kx1 kv1 ku1
      go_wp2_with fail
      refine (HF.out _ (by omega) _ (by simp [go_sem]) (by simp [go_sem])).mono ?_
      rintro e w2 ⟨rfl, hb2⟩
      (have rb : Below w1.heap.size w1 w2 := bstep (by (repeat (first | with_reducible exact Below.refl _ _ | with_reducible assumption | with_reducible refine balloc ?_ _ | with_reducible refine bdrew ?_ | with_reducible refine below_drewN ?_ _ | with_reducible refine bset ?_ ?_ _ | with_reducible exact Nat.le_refl _ | with_reducible refine bsize ?_ | (dsimp only; refine Nat.le_trans ?_ (Nat.le_add_right _ _)) | with_reducible refine Nat.le_trans ?_ (Nat.le_add_right _ _) | (with_reducible refine bstep ?_ (by assumption))))) hb2); replace r1 := keepa rb rz r1; replace r2 := keepa rb rz r2; replace r3 := keepz rb rz r3; replace r4 := keepz rb rz r4; replace rz := Nat.lt_of_lt_of_le rz rb.size; clear rb
      go_wp2
      refine bodyPost_ret (v := .tuple #[.agg #[.int .i64 (lowN (l + o) (s + t)), .int .i64 (lowD (l + o) (s + t))], .bool (lowB (l + o) (s + t))]) (by simp only [results, Try.results35]; go_simp) rfl ⟨rfl, ?_⟩
      (repeat (first | with_reducible exact Below.refl _ _ | with_reducible assumption | with_reducible refine balloc ?_ _ | with_reducible refine bdrew ?_ | with_reducible refine below_drewN ?_ _ | with_reducible refine bset ?_ ?_ _ | with_reducible exact Nat.le_refl _ | with_reducible refine bsize ?_ | (dsimp only; refine Nat.le_trans ?_ (Nat.le_add_right _ _)) | with_reducible refine Nat.le_trans ?_ (Nat.le_add_right _ _) | (with_reducible refine bstep ?_ (by assumption))))
    · rcases Int.lt_trichotomy s t with hx | hx | hx0
      · have hD3 : D = t - s := by rw [hD2]; simp; omega
        subst hD3
        clear hD2
        go_enter Try.func35, Try.ntmps35
        go_wp2_with fail
        refine (HT.out _ _ (by simp [go_sem]) (by simp [go_sem]) (by simp [go_sem]) (by simp [go_sem])).mono ?_
        rintro e w1 ⟨rfl, hb1⟩
        obtain ⟨kc1, kf1, kz1, ky1, kx1, kv1, ku1⟩ := bcell hb1
        have r1 : w1.cell? ⟨w.heap.size, 0, none⟩ = some (.int .i64 0) := (by rw [kc1 (w.heap.size) _ (by first | (simp; done) | (simp; omega))]; first | (simp; done) | (simp [go_sem]; done)); have r2 : w1.cell? ⟨w.heap.size, 1, none⟩ = some (.int .i64 0) := (by rw [kc1 (w.heap.size) _ (by first | (simp; done) | (simp; omega))]; first | (simp; done) | (simp [go_sem]; done)); have r3 : w1.frozen? ⟨w.heap.size, 0, none⟩ = false := (by rw [kf1 (w.heap.size) _ (by first | (simp; done) | (simp; omega))]; first | (simp; done) | (simp [go_sem]; done)); have r4 : w1.frozen? ⟨w.heap.size, 1, none⟩ = false := (by rw [kf1 (w.heap.size) _ (by first | (simp; done) | (simp; omega))]; first | (simp; done) | (simp [go_sem]; done)); have rz : w.heap.size < w1.heap.size := kz1 (w.heap.size) (by first | (simp; done) | (simp; omega))
        clear kc1 kf1 kz1 ky1 kx1 kv1 ku1
        go_wp2_with fail
        refine (HF.out _ (by omega) _ (by simp [go_sem]) (by simp [go_sem])).mono ?_
        rintro e w2 ⟨rfl, hb2⟩
        (have rb : Below w1.heap.size w1 w2 := bstep (by (repeat (first | with_reducible exact Below.refl _ _ | with_reducible assumption | with_reducible refine balloc ?_ _ | with_reducible refine bdrew ?_ | with_reducible refine below_drewN ?_ _ | with_reducible refine bset ?_ ?_ _ | with_reducible exact Nat.le_refl _ | with_reducible refine bsize ?_ | (dsimp only; refine Nat.le_trans ?_ (Nat.le_add_right _ _)) | with_reducible refine Nat.le_trans ?_ (Nat.le_add_right _ _) | (with_reducible refine bstep ?_ (by assumption))))) hb2); replace r1 := keepa rb rz r1; replace r2 := keepa rb rz r2; replace r3 := keepz rb rz r3; replace r4 := keepz rb rz r4; replace rz := Nat.lt_of_lt_of_le rz rb.size; clear rb
        go_wp2
        refine bodyPost_ret (v := .tuple #[.agg #[.int .i64 (lowN (l + o) (t - s)), .int .i64 (lowD (l + o) (t - s))], .bool (lowB (l + o) (t - s))]) (by simp only [results, Try.results35]; go_simp) rfl ⟨rfl, ?_⟩
        (repeat (first | with_reducible exact Below.refl _ _ | with_reducible assumption | with_reducible refine balloc ?_ _ | with_reducible refine bdrew ?_ | with_reducible refine below_drewN ?_ _ | with_reducible refine bset ?_ ?_ _ | with_reducible exact Nat.le_refl _ | with_reducible refine bsize ?_ | (dsimp only; refine Nat.le_trans ?_ (Nat.le_add_right _ _)) | with_reducible refine Nat.le_trans ?_ (Nat.le_add_right _ _) | (with_reducible refine bstep ?_ (by assumption))))
      · subst hx
        have hD3 : D = 0 := by rw [hD2]; simp
        subst hD3
        clear hD2
        go_enter Try.func35, Try.ntmps35
        go_wp2_with fail
        refine (HT.out _ _ (by simp [go_sem]) (by simp [go_sem]) (by simp [go_sem]) (by simp [go_sem])).mono ?_
        rintro e w1 ⟨rfl, hb1⟩
        obtain ⟨kc1, kf1, kz1, ky1, kx1, kv1, ku1⟩ := bcell hb1
        have r1 : w1.cell? ⟨w.heap.size, 0, none⟩ = some (.int .i64 0) := (by rw [kc1 (w.heap.size) _ (by first | (simp; done) | (simp; omega))]; first | (simp; done) | (simp [go_sem]; done)); have r2 : w1.cell? ⟨w.heap.size, 1, none⟩ = some (.int .i64 0) := (by rw [kc1 (w.heap.size) _ (by first | (simp; done) | (simp; omega))]; first | (simp; done) | (simp [go_sem]; done)); have r3 : w1.frozen? ⟨w.heap.size, 0, none⟩ = false := (by rw [kf1 (w.heap.size) _ (by first | (simp; done) | (simp; omega))]; first | (simp; done) | (simp [go_sem]; done)); have r4 : w1.frozen? ⟨w.heap.size, 1, none⟩ = false := (by rw [kf1 (w.heap.size) _ (by first | (simp; done) | (simp; omega))]; first | (simp; done) | (simp [go_sem]; done)); have rz : w.heap.size < w1.heap.size := kz1 (w.heap.size) (by first | (simp; done) | (simp; omega))
        clear kc1 kf1 kz1 ky1 kx1 kv1 ku1
        go_wp2_with fail
        refine (HF.out _ (by omega) _ (by simp [go_sem]) (by simp [go_sem])).mono ?_
        rintro e w2 ⟨rfl, hb2⟩
        (have rb : Below w1.heap.size w1 w2 := bstep (by (repeat (first | with_reducible exact Below.refl _ _ | with_reducible assumption | with_reducible refine balloc ?_ _ | with_reducible refine bdrew ?_ | with_reducible refine below_drewN ?_ _ | with_reducible refine bset ?_ ?_ _ | with_reducible exact Nat.le_refl _ | with_reducible refine bsize ?_ | (dsimp only; refine Nat.le_trans ?_ (Nat.le_add_right _ _)) | with_reducible refine Nat.le_trans ?_ (Nat.le_add_right _ _) | (with_reducible refine bstep ?_ (by assumption))))) hb2); replace r1 := keepa rb rz r1; replace r2 := keepa rb rz r2; replace r3 := keepz rb rz r3; replace r4 := keepz rb rz r4; replace rz := Nat.lt_of_lt_of_le rz rb.size; clear rb
        go_wp2
        refine bodyPost_ret (v := .tuple #[.agg #[.int .i64 (lowN (l + o) 0), .int .i64 (lowD (l + o) 0)], .bool (lowB (l + o) 0)]) (by simp only [results, Try.results35]; go_simp) rfl ⟨rfl, ?_⟩
        (repeat (first | with_reducible exact Below.refl _ _ | with_reducible assumption | with_reducible refine balloc ?_ _ | with_reducible refine bdrew ?_ | with_reducible refine below_drewN ?_ _ | with_reducible refine bset ?_ ?_ _ | with_reducible exact Nat.le_refl _ | with_reducible refine bsize ?_ | (dsimp only; refine Nat.le_trans ?_ (Nat.le_add_right _ _)) | with_reducible refine Nat.le_trans ?_ (Nat.le_add_right _ _) | (with_reducible refine bstep ?_ (by assumption))))
      · have hx : ¬ s ≤ t := by omega
        clear hx0
        have hD3 : D = s - t := by rw [hD2]; simp; omega
        subst hD3
        clear hD2
        go_enter Try.func35, Try.ntmps35
        go_wp2_with fail
        refine (HT.out _ _ (by simp [go_sem]) (by simp [go_sem]) (by simp [go_sem]) (by simp [go_sem])).mono ?_
        rintro e w1 ⟨rfl, hb1⟩
        obtain ⟨kc1, kf1, kz1, ky1, kx1, kv1, ku1⟩ := bcell hb1
        have r1 : w1.cell? ⟨w.heap.size, 0, none⟩ = some (.int .i64 0) := (by rw [kc1 (w.heap.size) _ (by first | (simp; done) | (simp; omega))]; first | (simp; done) | (simp [go_sem]; done)); have r2 : w1.cell? ⟨w.heap.size, 1, none⟩ = some (.int .i64 0) := (by rw [kc1 (w.heap.size) _ (by first | (simp; done) | (simp; omega))]; first | (simp; done) | (simp [go_sem]; done)); have r3 : w1.frozen? ⟨w.heap.size, 0, none⟩ = false := (by rw [kf1 (w.heap.size) _ (by first | (simp; done) | (simp; omega))]; first | (simp; done) | (simp [go_sem]; done)); have r4 : w1.frozen? ⟨w.heap.size, 1, none⟩ = false := (by rw [kf1 (w.heap.size) _ (by first | (simp; done) | (simp; omega))]; first | (simp; done) | (simp [go_sem]; done)); have rz : w.heap.size < w1.heap.size := kz1 (w.heap.size) (by first | (simp; done) | (simp; omega))
        clear kc1 kf1 kz1 ky1 kx1 kv1 ku1
        go_wp2_with fail
        refine (HF.out _ (by omega) _ (by simp [go_sem]) (by simp [go_sem])).mono ?_
        rintro e w2 ⟨rfl, hb2⟩
        (have rb : Below w1.heap.size w1 w2 := bstep (by (repeat (first | with_reducible exact Below.refl _ _ | with_reducible assumption | with_reducible refine balloc ?_ _ | with_reducible refine bdrew ?_ | with_reducible refine below_drewN ?_ _ | with_reducible refine bset ?_ ?_ _ | with_reducible exact Nat.le_refl _ | with_reducible refine bsize ?_ | (dsimp only; refine Nat.le_trans ?_ (Nat.le_add_right _ _)) | with_reducible refine Nat.le_trans ?_ (Nat.le_add_right _ _) | (with_reducible refine bstep ?_ (by assumption))))) hb2); replace r1 := keepa rb rz r1; replace r2 := keepa rb rz r2; replace r3 := keepz rb rz r3; replace r4 := keepz rb rz r4; replace rz := Nat.lt_of_lt_of_le rz rb.size; clear rb
        go_wp2
        refine bodyPost_ret (v := .tuple #[.agg #[.int .i64 (lowN (l + o) (s - t)), .int .i64 (lowD (l + o) (s - t))], .bool (lowB (l + o) (s - t))]) (by simp only [results, Try.results35]; go_simp) rfl ⟨rfl, ?_⟩
        (repeat (first | with_reducible exact Below.refl _ _ | with_reducible assumption | with_reducible refine balloc ?_ _ | with_reducible refine bdrew ?_ | with_reducible refine below_drewN ?_ _ | with_reducible refine bset ?_ ?_ _ | with_reducible exact Nat.le_refl _ | with_reducible refine bsize ?_ | (dsimp only; refine Nat.le_trans ?_ (Nat.le_add_right _ _)) | with_reducible refine Nat.le_trans ?_ (Nat.le_add_right _ _) | (with_reducible refine bstep ?_ (by assumption))))
set_option maxHeartbeats 6400000 in
theorem pass_spec (l s o t : Int) (q : Bool) (w : World) :
    Calls Try.prog 34 #[.int .i64 l, .int .i64 s, .int .i64 o, .int .i64 t, .bool q] w fun e w' => e = .returned (.tuple #[.agg #[.int .i64 (twoN (ptK l s o t) (l + o) (ptD s t q)), .int .i64 (twoD (ptK l s o t) (l + o) (ptD s t q))], .bool (twoB (ptK l s o t) (l + o) (ptD s t q))]) ∧ Below w.heap.size w w' := by
  cases h1 : trP l
  · rw [(nolow8 (ptK l s o t) (l + o) (ptD s t q) (by simp [ptK, h1])).1, (nolow8 (ptK l s o t) (l + o) (ptD s t q) (by simp [ptK, h1])).2.1, (nolow8 (ptK l s o t) (l + o) (ptD s t q) (by simp [ptK, h1])).2.2]
    go_enter Try.func34, Try.ntmps34
    go_wp2_with (go_at_call 60; refine (one_spec _ _).mono ?_; rintro e w2 ⟨rfl, rfl⟩; first | rw [h1])
    refine bodyPost_ret (v := .tuple #[.agg #[.int .i64 0, .int .i64 0], .bool false]) (by simp only [results, Try.results34]; go_simp) rfl ⟨rfl, ?_⟩
    (repeat (first | with_reducible exact Below.refl _ _ | with_reducible assumption | with_reducible refine balloc ?_ _ | with_reducible refine bdrew ?_ | with_reducible refine below_drewN ?_ _ | with_reducible refine bset ?_ ?_ _ | with_reducible exact Nat.le_refl _ | with_reducible refine bsize ?_ | (dsimp only; refine Nat.le_trans ?_ (Nat.le_add_right _ _)) | with_reducible refine Nat.le_trans ?_ (Nat.le_add_right _ _) | (with_reducible refine bstep ?_ (by assumption))))
  · skip
    cases h2 : trP s
    · rw [(nolow8 (ptK l s o t) (l + o) (ptD s t q) (by simp [ptK, h2])).1, (nolow8 (ptK l s o t) (l + o) (ptD s t q) (by simp [ptK, h2])).2.1, (nolow8 (ptK l s o t) (l + o) (ptD s t q) (by simp [ptK, h2])).2.2]
      go_enter Try.func34, Try.ntmps34
      go_wp2_with (go_at_call 60; refine (one_spec _ _).mono ?_; rintro e w2 ⟨rfl, rfl⟩; first | rw [h1] | rw [h2])
      refine bodyPost_ret (v := .tuple #[.agg #[.int .i64 0, .int .i64 0], .bool false]) (by simp only [results, Try.results34]; go_simp) rfl ⟨rfl, ?_⟩
      (repeat (first | with_reducible exact Below.refl _ _ | with_reducible assumption | with_reducible refine balloc ?_ _ | with_reducible refine bdrew ?_ | with_reducible refine below_drewN ?_ _ | with_reducible refine bset ?_ ?_ _ | with_reducible exact Nat.le_refl _ | with_reducible refine bsize ?_ | (dsimp only; refine Nat.le_trans ?_ (Nat.le_add_right _ _)) | with_reducible refine Nat.le_trans ?_ (Nat.le_add_right _ _) | (with_reducible refine bstep ?_ (by assumption))))
    · skip
      cases h3 : trP o
      · rw [(nolow8 (ptK l s o t) (l + o) (ptD s t q) (by simp [ptK, h3])).1, (nolow8 (ptK l s o t) (l + o) (ptD s t q) (by simp [ptK, h3])).2.1, (nolow8 (ptK l s o t) (l + o) (ptD s t q) (by simp [ptK, h3])).2.2]
        go_enter Try.func34, Try.ntmps34
        go_wp2_with (go_at_call 60; refine (one_spec _ _).mono ?_; rintro e w2 ⟨rfl, rfl⟩; first | rw [h1] | rw [h2] | rw [h3])
        refine bodyPost_ret (v := .tuple #[.agg #[.int .i64 0, .int .i64 0], .bool false]) (by simp only [results, Try.results34]; go_simp) rfl ⟨rfl, ?_⟩
        (repeat (first | with_reducible exact Below.refl _ _ | with_reducible assumption | with_reducible refine balloc ?_ _ | with_reducible refine bdrew ?_ | with_reducible refine below_drewN ?_ _ | with_reducible refine bset ?_ ?_ _ | with_reducible exact Nat.le_refl _ | with_reducible refine bsize ?_ | (dsimp only; refine Nat.le_trans ?_ (Nat.le_add_right _ _)) | with_reducible refine Nat.le_trans ?_ (Nat.le_add_right _ _) | (with_reducible refine bstep ?_ (by assumption))))
      · skip
        cases h4 : trP t
        · rw [(nolow8 (ptK l s o t) (l + o) (ptD s t q) (by simp [ptK, h4])).1, (nolow8 (ptK l s o t) (l + o) (ptD s t q) (by simp [ptK, h4])).2.1, (nolow8 (ptK l s o t) (l + o) (ptD s t q) (by simp [ptK, h4])).2.2]
          go_enter Try.func34, Try.ntmps34
          go_wp2_with (go_at_call 60; refine (one_spec _ _).mono ?_; rintro e w2 ⟨rfl, rfl⟩; first | rw [h1] | rw [h2] | rw [h3] | rw [h4])
          refine bodyPost_ret (v := .tuple #[.agg #[.int .i64 0, .int .i64 0], .bool false]) (by simp only [results, Try.results34]; go_simp) rfl ⟨rfl, ?_⟩
          (repeat (first | with_reducible exact Below.refl _ _ | with_reducible assumption | with_reducible refine balloc ?_ _ | with_reducible refine bdrew ?_ | with_reducible refine below_drewN ?_ _ | with_reducible refine bset ?_ ?_ _ | with_reducible exact Nat.le_refl _ | with_reducible refine bsize ?_ | (dsimp only; refine Nat.le_trans ?_ (Nat.le_add_right _ _)) | with_reducible refine Nat.le_trans ?_ (Nat.le_add_right _ _) | (with_reducible refine bstep ?_ (by assumption))))
        · skip
          have hk : ptK l s o t = true := by simp [ptK, h1, h2, h3, h4]
          rw [hk, (two_yes (l + o) (ptD s t q)).1, (two_yes (l + o) (ptD s t q)).2.1, (two_yes (l + o) (ptD s t q)).2.2]
          obtain ⟨l1, s1, o1, t1⟩ := ptK_yes hk
          clear hk
          cases q
          · have e : ptD s t false = s + t := rfl
            rw [e]
            go_enter Try.func34, Try.ntmps34
            go_wp2_with (first | (go_at_call 60; refine (one_spec _ _).mono ?_; rintro e w2 ⟨rfl, rfl⟩; first | rw [h1] | rw [h2] | rw [h3] | rw [h4]) | (go_at_call 46; refine (make_spec _ _ (by omega) (by omega) (by omega) (by omega) _).mono ?_; rintro e w1 ⟨rfl, hb1⟩; obtain ⟨kc1, kf1, kz1, ky1, kx1, kv1, ku1⟩ := bcell hb1))
            refine bodyPost_ret (v := .tuple #[.agg #[.int .i64 (lowN (l + o) (s + t)), .int .i64 (lowD (l + o) (s + t))], .bool (lowB (l + o) (s + t))]) (by simp only [results, Try.results34]; go_simp) rfl ⟨rfl, ?_⟩
            (repeat (first | with_reducible exact Below.refl _ _ | with_reducible assumption | with_reducible refine balloc ?_ _ | with_reducible refine bdrew ?_ | with_reducible refine below_drewN ?_ _ | with_reducible refine bset ?_ ?_ _ | with_reducible exact Nat.le_refl _ | with_reducible refine bsize ?_ | (dsimp only; refine Nat.le_trans ?_ (Nat.le_add_right _ _)) | with_reducible refine Nat.le_trans ?_ (Nat.le_add_right _ _) | (with_reducible refine bstep ?_ (by assumption))))
          · have e : ptD s t true = max (s - t) (-(s - t)) := rfl
            rw [e]
            have HA := Lib.hid (fun W => abs_spec (s - t) (by omega) W)
            have hm : 0 ≤ max (s - t) (-(s - t)) ∧ max (s - t) (-(s - t)) ≤ 1000 := by omega
            generalize max (s - t) (-(s - t)) = m at *
            by_cases hz : m = 0
            · subst hz
              rw [(low_0 (l + o)).1, (low_0 (l + o)).2.1, (low_0 (l + o)).2.2]
              go_enter Try.func34, Try.ntmps34
              go_wp2_with (first | (go_at_call 60; refine (one_spec _ _).mono ?_; rintro e w2 ⟨rfl, rfl⟩; first | rw [h1] | rw [h2] | rw [h3] | rw [h4]) | (go_at_call 61; refine (HA.out _).mono ?_; rintro e w2 ⟨rfl, rfl⟩))
              refine bodyPost_ret (v := .tuple #[.agg #[.int .i64 0, .int .i64 0], .bool false]) (by simp only [results, Try.results34]; go_simp) rfl ⟨rfl, ?_⟩
              (repeat (first | with_reducible exact Below.refl _ _ | with_reducible assumption | with_reducible refine balloc ?_ _ | with_reducible refine bdrew ?_ | with_reducible refine below_drewN ?_ _ | with_reducible refine bset ?_ ?_ _ | with_reducible exact Nat.le_refl _ | with_reducible refine bsize ?_ | (dsimp only; refine Nat.le_trans ?_ (Nat.le_add_right _ _)) | with_reducible refine Nat.le_trans ?_ (Nat.le_add_right _ _) | (with_reducible refine bstep ?_ (by assumption))))
            · have hp : 1 ≤ m := by omega
              go_enter Try.func34, Try.ntmps34
              go_wp2_with (first | (go_at_call 60; refine (one_spec _ _).mono ?_; rintro e w2 ⟨rfl, rfl⟩; first | rw [h1] | rw [h2] | rw [h3] | rw [h4]) | (go_at_call 61; refine (HA.out _).mono ?_; rintro e w2 ⟨rfl, rfl⟩) | (go_at_call 46; refine (make_spec _ _ (by omega) (by omega) (by omega) (by omega) _).mono ?_; rintro e w1 ⟨rfl, hb1⟩; obtain ⟨kc1, kf1, kz1, ky1, kx1, kv1, ku1⟩ := bcell hb1))
              refine bodyPost_ret (v := .tuple #[.agg #[.int .i64 (lowN (l + o) m), .int .i64 (lowD (l + o) m)], .bool (lowB (l + o) m)]) (by simp only [results, Try.results34]; go_simp) rfl ⟨rfl, ?_⟩
              (repeat (first | with_reducible exact Below.refl _ _ | with_reducible assumption | with_reducible refine balloc ?_ _ | with_reducible refine bdrew ?_ | with_reducible refine below_drewN ?_ _ | with_reducible refine bset ?_ ?_ _ | with_reducible exact Nat.le_refl _ | with_reducible refine bsize ?_ | (dsimp only; refine Nat.le_trans ?_ (Nat.le_add_right _ _)) | with_reducible refine Nat.le_trans ?_ (Nat.le_add_right _ _) | (with_reducible refine bstep ?_ (by assumption))))
end Go.Proofs.Ythfaljninmcopaa
