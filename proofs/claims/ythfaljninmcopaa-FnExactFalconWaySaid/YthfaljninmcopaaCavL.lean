/- The falcon's way; a column's rider: of the program and of the model. -/
import Derived.Test.YthfaljninmcopaaCavA
import Derived.Test.YthfaljninmcopaaCam5
import Derived.Test.YthfaljninmcopaaCavM
import Derived.Test.YthfaljninmcopaaRes8
import Derived.Test.YthfaljninmcopaaStep
import Derived.Deep.RegionHeld3
import Derived.Deep.DeepCutAuto
import Derived.Deep.RegionWith
namespace Go.Proofs.Ythfaljninmcopaa
open Go.ChangeShapes Go.WideShapes Go.ChangeAt Go.RowKit Go.Joins
set_option maxRecDepth 100000
set_option linter.unusedVariables false
set_option linter.unusedSimpArgs false

def fwK (l a b f : Int) : Bool := trP l && trP a && trP b && trP f && decide (a ≤ f ∧ b ≤ f)
theorem fwK_yes {l a b f : Int} (h : fwK l a b f = true) : (1 ≤ l ∧ l ≤ 1000) ∧ (1 ≤ a ∧ a ≤ 1000) ∧ (1 ≤ b ∧ b ≤ 1000) ∧ (1 ≤ f ∧ f ≤ 1000) ∧ a ≤ f ∧ b ≤ f := by
  simp [fwK, trP, inB] at h; omega
theorem whole9 (k : Int) (w : World) :
    Calls Try.prog 56 #[.int .i64 k] w fun e w' => e = .returned (.agg #[.int .i64 k, .int .i64 1]) ∧ Below w.heap.size w w' := by
  go_enter Try.func56, Try.ntmps56
  go_wp2
  exact bodyPost_ret (v := .agg #[.int .i64 k, .int .i64 1]) (by simp [results, Try.results56, go_sem]) rfl ⟨rfl, by (repeat (first | with_reducible exact Below.refl _ _ | with_reducible assumption | with_reducible refine balloc ?_ _ | with_reducible refine bdrew ?_ | with_reducible refine below_drewN ?_ _ | with_reducible refine bset ?_ ?_ _ | with_reducible exact Nat.le_refl _ | with_reducible refine bsize ?_ | (dsimp only; refine Nat.le_trans ?_ (Nat.le_add_right _ _)) | with_reducible refine Nat.le_trans ?_ (Nat.le_add_right _ _) | (with_reducible refine bstep ?_ (by assumption))))⟩
/-- A whole number of times a fraction in lowest terms. -/
theorem low_times (n d k : Int) (h : lowB n d = true) : lowB (lowN n d * k) (lowD n d) = lowB (k * n) d ∧ lowN (lowN n d * k) (lowD n d) = lowN (k * n) d ∧ lowD (lowN n d * k) (lowD n d) = lowD (k * n) d := by
  have e := low_eq n d h
  have hd := ((lowB_iff n d).1 h).2.1
  refine lw_cross _ _ _ _ e.2.1 hd ?_
  have e1 := e.1
  generalize lowN n d = p at *
  generalize lowD n d = q at *
  grind
set_option maxHeartbeats 12800000 in
theorem falcon_impl (l a b f : Int) (b0 : -9223372036854775808 ≤ l ∧ l ≤ 9223372036854775807) (b1 : -9223372036854775808 ≤ a ∧ a ≤ 9223372036854775807) (b2 : -9223372036854775808 ≤ b ∧ b ≤ 9223372036854775807) (b3 : -9223372036854775808 ≤ f ∧ f ≤ 9223372036854775807) (w : World) :
    Calls Try.prog 33 #[.int .i64 l, .int .i64 a, .int .i64 b, .int .i64 f] w fun e w' => e = .returned (.tuple #[.agg #[.int .i64 (twoN (fwK l a b f) (f * l) (a + b)), .int .i64 (twoD (fwK l a b f) (f * l) (a + b))], .bool (twoB (fwK l a b f) (f * l) (a + b))]) ∧ Below w.heap.size w w' := by
  have HT := Lib.hid (fun g W h0 h1 h2 h3 => tr4 l a b f b0 b1 b2 b3 g W h0 h1 h2 h3)
  cases hk : (trP l && trP a && trP b && trP f)
  · obtain ⟨e1, e2, e3⟩ := nolow8 (fwK l a b f) (f * l) (a + b) (by simp only [fwK, hk, Bool.false_and])
    rw [e1, e2, e3]; clear e1 e2 e3
    rw [hk] at HT
    clear hk
    go_enter Try.func33, Try.ntmps33
    go_wp2_with fail
    refine (HT.out _ _ (by simp [go_sem]) (by simp [go_sem]) (by simp [go_sem]) (by simp [go_sem])).mono ?_
    rintro e w1 ⟨rfl, hb1⟩
    (have ha1 : Below w.heap.size w w1 := by (repeat (first | with_reducible exact Below.refl _ _ | with_reducible assumption | with_reducible refine balloc ?_ _ | with_reducible refine bdrew ?_ | with_reducible refine below_drewN ?_ _ | with_reducible refine bset ?_ ?_ _ | with_reducible exact Nat.le_refl _ | with_reducible refine bsize ?_ | (dsimp only; refine Nat.le_trans ?_ (Nat.le_add_right _ _)) | with_reducible refine Nat.le_trans ?_ (Nat.le_add_right _ _) | (with_reducible refine bstep ?_ (by assumption)))))
    obtain ⟨kc1, kf1, kz1, ky1, kx1, kv1, ku1⟩ := bcell hb1
    have r1 : w1.cell? ⟨w.heap.size, 0, none⟩ = some (.int .i64 0) := (by rw [kc1 (w.heap.size) _ (by first | (simp; done) | (simp; omega))]; first | (simp; done) | (simp [go_sem]; done)); have r2 : w1.cell? ⟨w.heap.size, 1, none⟩ = some (.int .i64 0) := (by rw [kc1 (w.heap.size) _ (by first | (simp; done) | (simp; omega))]; first | (simp; done) | (simp [go_sem]; done)); have r3 : w1.frozen? ⟨w.heap.size, 0, none⟩ = false := (by rw [kf1 (w.heap.size) _ (by first | (simp; done) | (simp; omega))]; first | (simp; done) | (simp [go_sem]; done)); have r4 : w1.frozen? ⟨w.heap.size, 1, none⟩ = false := (by rw [kf1 (w.heap.size) _ (by first | (simp; done) | (simp; omega))]; first | (simp; done) | (simp [go_sem]; done)); have rz : w.heap.size < w1.heap.size := kz1 (w.heap.size) (by first | (simp; done) | (simp; omega))
    clear kc1 kf1 kz1 ky1 kx1 kv1 ku1 hb1
    go_wp2
    refine bodyPost_ret (v := .tuple #[.agg #[.int .i64 0, .int .i64 0], .bool false]) (by simp only [results, Try.results33]; go_simp) rfl ⟨rfl, ?_⟩
    (repeat (first | with_reducible exact Below.refl _ _ | with_reducible assumption | with_reducible refine balloc ?_ _ | with_reducible refine bdrew ?_ | with_reducible refine below_drewN ?_ _ | with_reducible refine bset ?_ ?_ _ | with_reducible exact Nat.le_refl _ | with_reducible refine bsize ?_ | (dsimp only; refine Nat.le_trans ?_ (Nat.le_add_right _ _)) | with_reducible refine Nat.le_trans ?_ (Nat.le_add_right _ _) | (with_reducible refine bstep ?_ (by assumption))))
  · rw [hk] at HT
    by_cases hf : a ≤ f ∧ b ≤ f
    · have hK : fwK l a b f = true := by simp only [fwK, hk, Bool.true_and, decide_eq_true hf]
      obtain ⟨l0, a0, c0, f0, _⟩ := fwK_yes hK
      rw [hK, (two_yes _ _).1, (two_yes _ _).2.1, (two_yes _ _).2.2]
      have hl := low_small l (a + b) (by omega) (by omega) (by omega) (by omega)
      obtain ⟨q1, q2, q3⟩ := low_times l (a + b) f hl
      rw [← q1, ← q2, ← q3]
      have HF := Lib.hid (fun W g h1 => tf1 (a + b) l (by omega) (by omega) g W h1)
      rw [hl] at HF
      have hA := amB_low _ _ hl
      have hA2 := am_of _ _ hA
      have HM := Lib.hid (fun W => times1_impl (lowN l (a + b)) (lowD l (a + b)) f (by have := hA2.a; have := hA2.b; omega) (by have := hA2.c; have := hA2.d; omega) (by omega) (by omega) W)
      rw [hA, (two_yes _ _).1, (two_yes _ _).2.1, (two_yes _ _).2.2] at HM
      clear q1 q2 q3 hl hA hA2 hk hK
      generalize lowN l (a + b) = p at *
      generalize lowD l (a + b) = q at *
      obtain ⟨R1, hR1⟩ : ∃ R, lowN (p * f) q = R := ⟨_, rfl⟩
      obtain ⟨R2, hR2⟩ : ∃ R, lowD (p * f) q = R := ⟨_, rfl⟩
      obtain ⟨R3, hR3⟩ : ∃ R, lowB (p * f) q = R := ⟨_, rfl⟩
      rw [hR1, hR2, hR3]; rw [hR1, hR2, hR3] at HM
      clear hR1 hR2 hR3
      have HW := Lib.hid (fun W => whole9 f W)
      go_enter Try.func33, Try.ntmps33
      go_upto_region 1 with fail
      go_cut [25] (fun s25 wx => s25 = .bool false ∧ Below w.heap.size w wx ∧ wx.cell? ⟨w.heap.size, 0, none⟩ = some (.int .i64 0) ∧ wx.cell? ⟨w.heap.size, 1, none⟩ = some (.int .i64 0) ∧ wx.frozen? ⟨w.heap.size, 0, none⟩ = false ∧ wx.frozen? ⟨w.heap.size, 1, none⟩ = false ∧ w.heap.size < wx.heap.size)
      case first =>
        go_wp2_with fail
        refine (HT.out _ _ (by simp [go_sem]) (by simp [go_sem]) (by simp [go_sem]) (by simp [go_sem])).mono ?_
        rintro e w1 ⟨rfl, hb1⟩
        (have ha1 : Below w.heap.size w w1 := by (repeat (first | with_reducible exact Below.refl _ _ | with_reducible assumption | with_reducible refine balloc ?_ _ | with_reducible refine bdrew ?_ | with_reducible refine below_drewN ?_ _ | with_reducible refine bset ?_ ?_ _ | with_reducible exact Nat.le_refl _ | with_reducible refine bsize ?_ | (dsimp only; refine Nat.le_trans ?_ (Nat.le_add_right _ _)) | with_reducible refine Nat.le_trans ?_ (Nat.le_add_right _ _) | (with_reducible refine bstep ?_ (by assumption)))))
        obtain ⟨kc1, kf1, kz1, ky1, kx1, kv1, ku1⟩ := bcell hb1
        have r1 : w1.cell? ⟨w.heap.size, 0, none⟩ = some (.int .i64 0) := (by rw [kc1 (w.heap.size) _ (by first | (simp; done) | (simp; omega))]; first | (simp; done) | (simp [go_sem]; done)); have r2 : w1.cell? ⟨w.heap.size, 1, none⟩ = some (.int .i64 0) := (by rw [kc1 (w.heap.size) _ (by first | (simp; done) | (simp; omega))]; first | (simp; done) | (simp [go_sem]; done)); have r3 : w1.frozen? ⟨w.heap.size, 0, none⟩ = false := (by rw [kf1 (w.heap.size) _ (by first | (simp; done) | (simp; omega))]; first | (simp; done) | (simp [go_sem]; done)); have r4 : w1.frozen? ⟨w.heap.size, 1, none⟩ = false := (by rw [kf1 (w.heap.size) _ (by first | (simp; done) | (simp; omega))]; first | (simp; done) | (simp [go_sem]; done)); have rz : w.heap.size < w1.heap.size := kz1 (w.heap.size) (by first | (simp; done) | (simp; omega))
        clear kc1 kf1 kz1 ky1 kx1 kv1 ku1 hb1
        rcases Int.lt_trichotomy a b with hx | hx | hx
        · go_wp2_with fail
          go_meet
          exact ⟨by simp; omega, ha1, r1, r2, r3, r4, rz⟩
        · subst hx
          go_wp2_with fail
          go_meet
          exact ⟨by simp; omega, ha1, r1, r2, r3, r4, rz⟩
        · go_wp2_with fail
          go_meet
          exact ⟨by simp; omega, ha1, r1, r2, r3, r4, rz⟩
      case rest =>
        obtain ⟨rfl, hbc, r1, r2, r3, r4, rz⟩ := hcut
        go_wp2_with fail
        refine (HF.out _ _ (by simp [go_sem])).mono ?_
        rintro e w2 ⟨rfl, hb2⟩
        (have rb : Below wc.heap.size wc w2 := bstep (by (repeat (first | with_reducible exact Below.refl _ _ | with_reducible assumption | with_reducible refine balloc ?_ _ | with_reducible refine bdrew ?_ | with_reducible refine below_drewN ?_ _ | with_reducible refine bset ?_ ?_ _ | with_reducible exact Nat.le_refl _ | with_reducible refine bsize ?_ | (dsimp only; refine Nat.le_trans ?_ (Nat.le_add_right _ _)) | with_reducible refine Nat.le_trans ?_ (Nat.le_add_right _ _) | (with_reducible refine bstep ?_ (by assumption))))) hb2); replace r1 := keepa rb rz r1; replace r2 := keepa rb rz r2; replace r3 := keepz rb rz r3; replace r4 := keepz rb rz r4; replace rz := Nat.lt_of_lt_of_le rz rb.size; clear rb
        (have ha2 : Below w.heap.size w w2 := by (repeat (first | with_reducible exact Below.refl _ _ | with_reducible assumption | with_reducible refine balloc ?_ _ | with_reducible refine bdrew ?_ | with_reducible refine below_drewN ?_ _ | with_reducible refine bset ?_ ?_ _ | with_reducible exact Nat.le_refl _ | with_reducible refine bsize ?_ | (dsimp only; refine Nat.le_trans ?_ (Nat.le_add_right _ _)) | with_reducible refine Nat.le_trans ?_ (Nat.le_add_right _ _) | (with_reducible refine bstep ?_ (by assumption)))))
        go_wp2_with fail
        have hg0 : w.heap.size < w2.heap.size := rz
        have hR : Res8 w.heap.size w2 := ⟨_, _, r1, r2, r3, r4, rz⟩
        have hgn : ¬ (w.heap.size = w2.heap.size) := by omega
        have hgn2 : ¬ (w2.heap.size = w.heap.size) := by omega
        go_region_held3 (fun W => Below w.heap.size w W ∧ Res8 w.heap.size W ∧ w.heap.size < W.heap.size ∧ w2.heap.size < W.heap.size ∧ W.cell? ⟨w2.heap.size, 0, none⟩ = some (.int .i64 p) ∧ W.cell? ⟨w2.heap.size, 1, none⟩ = some (.int .i64 q)) (((go_split_ands; (repeat' with_reducible apply And.intro) <;> first | with_reducible assumption | with_reducible exact Below.refl _ _ | with_reducible exact Res8.drew (by with_reducible assumption) | with_reducible exact Res8.drew (Res8.alloc (by with_reducible assumption) _) | with_reducible exact Res8.alloc (by with_reducible assumption) _ | with_reducible exact (Res8.set (Res8.set (by with_reducible assumption) 0 _ (by omega)) 1 _ (by omega)) | with_reducible exact Res8.drew (Res8.set (Res8.set (by with_reducible assumption) 0 _ (by omega)) 1 _ (by omega)) | ((repeat (first | with_reducible exact Below.refl _ _ | with_reducible assumption | with_reducible refine balloc ?_ _ | with_reducible refine bdrew ?_ | with_reducible refine below_drewN ?_ _ | with_reducible refine bset ?_ ?_ _ | with_reducible exact Nat.le_refl _ | with_reducible refine bsize ?_ | (dsimp only; refine Nat.le_trans ?_ (Nat.le_add_right _ _)) | with_reducible refine Nat.le_trans ?_ (Nat.le_add_right _ _) | (with_reducible refine bstep ?_ (by assumption)))); done) | (simp [go_sem]; done) | (simp; omega) | (simp [go_sem, *]; done) | go_keep))) (first | (go_at_call 56; refine (HW.out _).mono ?_; rintro e w3 ⟨rfl, hb3⟩; (try have fr := Res8.later (by first | with_reducible assumption | with_reducible exact Res8.drew (by with_reducible assumption) | with_reducible exact Res8.drew (Res8.alloc (by with_reducible assumption) _) | with_reducible exact Res8.alloc (by with_reducible assumption) _) hb3); (try (have fr2 := fr; obtain ⟨rx, ry, r1, r2, r3, r4, rz⟩ := fr2)); go_split_ands; (have f0 : Below w.heap.size w w3 := bstep (by first | with_reducible assumption | ((repeat (first | with_reducible exact Below.refl _ _ | with_reducible assumption | with_reducible refine balloc ?_ _ | with_reducible refine bdrew ?_ | with_reducible refine below_drewN ?_ _ | with_reducible refine bset ?_ ?_ _ | with_reducible exact Nat.le_refl _ | with_reducible refine bsize ?_ | (dsimp only; refine Nat.le_trans ?_ (Nat.le_add_right _ _)) | with_reducible refine Nat.le_trans ?_ (Nat.le_add_right _ _) | (with_reducible refine bstep ?_ (by assumption)))); done)) hb3); (have sz := hb3.size); (try simp only [go_sem] at sz); (have f1 : w3.cell? ⟨w2.heap.size, 0, none⟩ = some (.int .i64 p) := keepa hb3 (by first | with_reducible assumption | omega | (simp; omega)) (by first | with_reducible assumption | (simp [go_sem]; done) | (simp [go_sem, *]; done))); (have f2 : w3.cell? ⟨w2.heap.size, 1, none⟩ = some (.int .i64 q) := keepa hb3 (by first | with_reducible assumption | omega | (simp; omega)) (by first | with_reducible assumption | (simp [go_sem]; done) | (simp [go_sem, *]; done))); (have fz1 : w.heap.size < w3.heap.size := by omega); (have fz2 : w2.heap.size < w3.heap.size := by omega)) | (go_at_call 59; refine (HM.out _).mono ?_; rintro e w3 ⟨rfl, hb3⟩; (try have fr := Res8.later (by first | with_reducible assumption | with_reducible exact Res8.drew (by with_reducible assumption) | with_reducible exact Res8.drew (Res8.alloc (by with_reducible assumption) _) | with_reducible exact Res8.alloc (by with_reducible assumption) _) hb3); (try (have fr2 := fr; obtain ⟨rx, ry, r1, r2, r3, r4, rz⟩ := fr2)); go_split_ands; (have f0 : Below w.heap.size w w3 := bstep (by first | with_reducible assumption | ((repeat (first | with_reducible exact Below.refl _ _ | with_reducible assumption | with_reducible refine balloc ?_ _ | with_reducible refine bdrew ?_ | with_reducible refine below_drewN ?_ _ | with_reducible refine bset ?_ ?_ _ | with_reducible exact Nat.le_refl _ | with_reducible refine bsize ?_ | (dsimp only; refine Nat.le_trans ?_ (Nat.le_add_right _ _)) | with_reducible refine Nat.le_trans ?_ (Nat.le_add_right _ _) | (with_reducible refine bstep ?_ (by assumption)))); done)) hb3); (have sz := hb3.size); (try simp only [go_sem] at sz); (have f1 : w3.cell? ⟨w2.heap.size, 0, none⟩ = some (.int .i64 p) := keepa hb3 (by first | with_reducible assumption | omega | (simp; omega)) (by first | with_reducible assumption | (simp [go_sem]; done) | (simp [go_sem, *]; done))); (have f2 : w3.cell? ⟨w2.heap.size, 1, none⟩ = some (.int .i64 q) := keepa hb3 (by first | with_reducible assumption | omega | (simp; omega)) (by first | with_reducible assumption | (simp [go_sem]; done) | (simp [go_sem, *]; done))); (have fz1 : w.heap.size < w3.heap.size := by omega); (have fz2 : w2.heap.size < w3.heap.size := by omega)))
        all_goals go_wp2
        all_goals refine bodyPost_ret (v := .tuple #[.agg #[.int .i64 R1, .int .i64 R2], .bool R3]) (by simp only [results, Try.results33]; go_simp) rfl ⟨rfl, ?_⟩
        all_goals (repeat (first | with_reducible exact Below.refl _ _ | with_reducible assumption | with_reducible refine balloc ?_ _ | with_reducible refine bdrew ?_ | with_reducible refine below_drewN ?_ _ | with_reducible refine bset ?_ ?_ _ | with_reducible exact Nat.le_refl _ | with_reducible refine bsize ?_ | (dsimp only; refine Nat.le_trans ?_ (Nat.le_add_right _ _)) | with_reducible refine Nat.le_trans ?_ (Nat.le_add_right _ _) | (with_reducible refine bstep ?_ (by assumption))))
    · obtain ⟨e1, e2, e3⟩ := nolow8 (fwK l a b f) (f * l) (a + b) (by simp only [fwK, hk, Bool.true_and, decide_eq_false hf])
      rw [e1, e2, e3]; clear e1 e2 e3 hk
      go_enter Try.func33, Try.ntmps33
      go_upto_region 1 with fail
      go_cut [25] (fun s25 wx => s25 = .bool true ∧ Below w.heap.size w wx ∧ wx.cell? ⟨w.heap.size, 0, none⟩ = some (.int .i64 0) ∧ wx.cell? ⟨w.heap.size, 1, none⟩ = some (.int .i64 0) ∧ wx.frozen? ⟨w.heap.size, 0, none⟩ = false ∧ wx.frozen? ⟨w.heap.size, 1, none⟩ = false ∧ w.heap.size < wx.heap.size)
      case first =>
        go_wp2_with fail
        refine (HT.out _ _ (by simp [go_sem]) (by simp [go_sem]) (by simp [go_sem]) (by simp [go_sem])).mono ?_
        rintro e w1 ⟨rfl, hb1⟩
        (have ha1 : Below w.heap.size w w1 := by (repeat (first | with_reducible exact Below.refl _ _ | with_reducible assumption | with_reducible refine balloc ?_ _ | with_reducible refine bdrew ?_ | with_reducible refine below_drewN ?_ _ | with_reducible refine bset ?_ ?_ _ | with_reducible exact Nat.le_refl _ | with_reducible refine bsize ?_ | (dsimp only; refine Nat.le_trans ?_ (Nat.le_add_right _ _)) | with_reducible refine Nat.le_trans ?_ (Nat.le_add_right _ _) | (with_reducible refine bstep ?_ (by assumption)))))
        obtain ⟨kc1, kf1, kz1, ky1, kx1, kv1, ku1⟩ := bcell hb1
        have r1 : w1.cell? ⟨w.heap.size, 0, none⟩ = some (.int .i64 0) := (by rw [kc1 (w.heap.size) _ (by first | (simp; done) | (simp; omega))]; first | (simp; done) | (simp [go_sem]; done)); have r2 : w1.cell? ⟨w.heap.size, 1, none⟩ = some (.int .i64 0) := (by rw [kc1 (w.heap.size) _ (by first | (simp; done) | (simp; omega))]; first | (simp; done) | (simp [go_sem]; done)); have r3 : w1.frozen? ⟨w.heap.size, 0, none⟩ = false := (by rw [kf1 (w.heap.size) _ (by first | (simp; done) | (simp; omega))]; first | (simp; done) | (simp [go_sem]; done)); have r4 : w1.frozen? ⟨w.heap.size, 1, none⟩ = false := (by rw [kf1 (w.heap.size) _ (by first | (simp; done) | (simp; omega))]; first | (simp; done) | (simp [go_sem]; done)); have rz : w.heap.size < w1.heap.size := kz1 (w.heap.size) (by first | (simp; done) | (simp; omega))
        clear kc1 kf1 kz1 ky1 kx1 kv1 ku1 hb1
        rcases Int.lt_trichotomy a b with hx | hx | hx
        · go_wp2_with fail
          go_meet
          exact ⟨by simp; omega, ha1, r1, r2, r3, r4, rz⟩
        · subst hx
          go_wp2_with fail
          go_meet
          exact ⟨by simp; omega, ha1, r1, r2, r3, r4, rz⟩
        · go_wp2_with fail
          go_meet
          exact ⟨by simp; omega, ha1, r1, r2, r3, r4, rz⟩
      case rest =>
        obtain ⟨rfl, hbc, r1, r2, r3, r4, rz⟩ := hcut
        go_wp2
        refine bodyPost_ret (v := .tuple #[.agg #[.int .i64 0, .int .i64 0], .bool false]) (by simp only [results, Try.results33]; go_simp) rfl ⟨rfl, ?_⟩
        (repeat (first | with_reducible exact Below.refl _ _ | with_reducible assumption | with_reducible refine balloc ?_ _ | with_reducible refine bdrew ?_ | with_reducible refine below_drewN ?_ _ | with_reducible refine bset ?_ ?_ _ | with_reducible exact Nat.le_refl _ | with_reducible refine bsize ?_ | (dsimp only; refine Nat.le_trans ?_ (Nat.le_add_right _ _)) | with_reducible refine Nat.le_trans ?_ (Nat.le_add_right _ _) | (with_reducible refine bstep ?_ (by assumption))))
end Go.Proofs.Ythfaljninmcopaa
