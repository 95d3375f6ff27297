/- Cans: the least fuel in cans, of the model and of the program. -/
import Derived.Test.YtbhdnocdpincpaaCanA
import Derived.Test.YtbhdnocdpincpaaNeedOut
import Derived.Test.YtbhdnocdpincpaaStep
namespace Go.Proofs.Ytbhdnocdpincpaa
open Go.ChangeShapes Go.WideShapes Go.ChangeAt Go.RowKit Go.Joins
set_option maxRecDepth 100000
set_option linter.unusedVariables false
set_option linter.unusedSimpArgs false

def exOk (l m : Int) : Bool := inB l 2 20 && inB m 0 100
def exF (l m : Int) : Int := lfX 1 (lowN m l) (lowD m l)
def exG (l m : Int) : Int := lfY 1 (lowN m l) (lowD m l)
def exB (l m : Int) : Bool := exOk l m && lfB 1 (lowN m l) (lowD m l) && lowB (exF l m * l) (exG l m)
def exX (l m : Int) : Int := if exB l m = true then lowN (exF l m * l) (exG l m) else 0
def exY (l m : Int) : Int := if exB l m = true then lowD (exF l m * l) (exG l m) else 0
theorem exOk_yes {l m : Int} (h : exOk l m = true) : 2 ≤ l ∧ l ≤ 20 ∧ 0 ≤ m ∧ m ≤ 100 := by
  simp [exOk, inB] at h; omega
theorem lowB_small (m l : Int) (h0 : 0 ≤ m) (h1 : m ≤ 100) (h2 : 2 ≤ l) (h3 : l ≤ 20) : lowB m l = true := by
  rw [lowB_iff]
  exact ⟨h0, by omega, Int.le_trans (Int.ediv_le_self _ h0) (by omega), Int.le_trans (Int.ediv_le_self _ (by omega)) (by omega)⟩
theorem lf_am (j n d : Int) (h : lfB j n d = true) : amB (lfX j n d) (lfY j n d) = true := by
  have hb := h
  unfold lfB at hb
  rw [Bool.and_eq_true] at hb
  unfold lfX lfY
  rw [if_pos h, if_pos h]
  exact amB_low _ _ hb.2
theorem ex_no (l m : Int) (h : exB l m = false) : exX l m = 0 ∧ exY l m = 0 := by
  unfold exX exY; rw [h]; exact ⟨rfl, rfl⟩
theorem ex_yes (l m : Int) (hk : exOk l m = true) (hf : lfB 1 (lowN m l) (lowD m l) = true) : exB l m = lowB (exF l m * l) (exG l m) ∧ exX l m = lowN (exF l m * l) (exG l m) ∧ exY l m = lowD (exF l m * l) (exG l m) := by
  have e : exB l m = lowB (exF l m * l) (exG l m) := by unfold exB; rw [hk, hf]; rfl
  refine ⟨e, ?_, ?_⟩
  · unfold exX; rw [e]
    cases h : lowB (exF l m * l) (exG l m)
    · rw [lowN_no _ _ h]; rfl
    · rfl
  · unfold exY; rw [e]
    cases h : lowB (exF l m * l) (exG l m)
    · rw [lowD_no _ _ h]; rfl
    · rfl

theorem miles_impl (m : Int) (w : World) :
    Calls Try.prog 33 #[.int .i64 m] w fun e w' => e = .returned (.bool (inB m 0 100)) ∧ w = w' := by
  go_enter Try.func33, Try.ntmps33
  go_wp2_with (go_at_call 38; refine (in_impl _ _ _ _).mono ?_; rintro e w1 ⟨rfl, rfl⟩)
  go_ret
  exact ⟨rfl, rfl⟩
set_option maxHeartbeats 800000 in
theorem fuelOut_pub (n d : Int) (bn : -9223372036854775808 ≤ n ∧ n ≤ 9223372036854775807) (bd : -9223372036854775808 ≤ d ∧ d ≤ 9223372036854775807) (w : World) :
    Calls Try.prog 35 #[.agg #[.int .i64 n, .int .i64 d]] w fun e w' => e = .returned (.tuple #[.agg #[.int .i64 (lfX 1 n d), .int .i64 (lfY 1 n d)], .bool (lfB 1 n d)]) ∧ Below w.heap.size w w' := by
  go_enter Try.func35, Try.ntmps35
  (go_wp2_with fail; refine (least_impl 1 n d (Or.inl rfl) bn bd _).mono ?_; rintro e w1 ⟨rfl, hb1⟩; have ha1 := hb1; obtain ⟨kc1, kf1, kz1, ky1, kx1, kv1, ku1⟩ := bcell hb1)
  go_wp2
  refine bodyPost_ret (v := .tuple #[.agg #[.int .i64 (lfX 1 n d), .int .i64 (lfY 1 n d)], .bool (lfB 1 n d)]) (by simp only [results, Try.results35]; go_simp) rfl ⟨rfl, ?_⟩
  (repeat (first | with_reducible exact Below.refl _ _ | with_reducible assumption | with_reducible refine balloc ?_ _ | with_reducible refine bdrew ?_ | with_reducible refine below_drewN ?_ _ | with_reducible refine bset ?_ ?_ _ | with_reducible exact Nat.le_refl _ | with_reducible refine bsize ?_ | (dsimp only; refine Nat.le_trans ?_ (Nat.le_add_right _ _)) | with_reducible refine Nat.le_trans ?_ (Nat.le_add_right _ _) | (with_reducible refine bstep ?_ (by assumption))))
set_option maxHeartbeats 3200000 in
theorem exact_impl (l m : Int) (w : World) :
    Calls Try.prog 21 #[.int .i64 l, .int .i64 m] w fun e w' => e = .returned (.tuple #[.agg #[.int .i64 (exX l m), .int .i64 (exY l m)], .bool (exB l m)]) ∧ Below w.heap.size w w' := by
  cases h1 : inB l 2 20
  · have e1 : exB l m = false := by simp [exB, exOk, h1]
    rw [(ex_no l m e1).1, (ex_no l m e1).2, e1]
    go_enter Try.func21, Try.ntmps21
    go_wp2_with (first | (go_at_call 27; refine (load_impl _ _).mono ?_; rintro e w1 ⟨rfl, rfl⟩; rw [h1]) | (go_at_call 33; refine (miles_impl _ _).mono ?_; rintro e w1 ⟨rfl, rfl⟩; rw [h2]))
    refine bodyPost_ret (v := .tuple #[.agg #[.int .i64 0, .int .i64 0], .bool false]) (by simp only [results, Try.results21]; go_simp) rfl ⟨rfl, ?_⟩
    (repeat (first | with_reducible exact Below.refl _ _ | with_reducible assumption | with_reducible refine balloc ?_ _ | with_reducible refine bdrew ?_ | with_reducible refine below_drewN ?_ _ | with_reducible refine bset ?_ ?_ _ | with_reducible exact Nat.le_refl _ | with_reducible refine bsize ?_ | (dsimp only; refine Nat.le_trans ?_ (Nat.le_add_right _ _)) | with_reducible refine Nat.le_trans ?_ (Nat.le_add_right _ _) | (with_reducible refine bstep ?_ (by assumption))))
  · cases h2 : inB m 0 100
    · have e1 : exB l m = false := by simp [exB, exOk, h2]
      rw [(ex_no l m e1).1, (ex_no l m e1).2, e1]
      go_enter Try.func21, Try.ntmps21
      go_wp2_with (first | (go_at_call 27; refine (load_impl _ _).mono ?_; rintro e w1 ⟨rfl, rfl⟩; rw [h1]) | (go_at_call 33; refine (miles_impl _ _).mono ?_; rintro e w1 ⟨rfl, rfl⟩; rw [h2]))
      refine bodyPost_ret (v := .tuple #[.agg #[.int .i64 0, .int .i64 0], .bool false]) (by simp only [results, Try.results21]; go_simp) rfl ⟨rfl, ?_⟩
      (repeat (first | with_reducible exact Below.refl _ _ | with_reducible assumption | with_reducible refine balloc ?_ _ | with_reducible refine bdrew ?_ | with_reducible refine below_drewN ?_ _ | with_reducible refine bset ?_ ?_ _ | with_reducible exact Nat.le_refl _ | with_reducible refine bsize ?_ | (dsimp only; refine Nat.le_trans ?_ (Nat.le_add_right _ _)) | with_reducible refine Nat.le_trans ?_ (Nat.le_add_right _ _) | (with_reducible refine bstep ?_ (by assumption))))
    · have hk : exOk l m = true := by simp [exOk, h1, h2]
      have hb := exOk_yes hk
      have hlow := lowB_small m l hb.2.2.1 hb.2.2.2 hb.1 hb.2.1
      have ham := am_of _ _ (amB_low m l hlow)
      have hM := Lib.hid (fun W : World => (by have h := mk_impl m l W; rw [show mkN m l = lowN m l by simp [mkN, mkOk, inB]; omega, show mkD m l = lowD m l by simp [mkD, mkOk, inB]; omega] at h; exact h : Calls Try.prog 34 #[.int .i64 m, .int .i64 l] W fun e w' => e = .returned (.tuple #[.agg #[.int .i64 (lowN m l), .int .i64 (lowD m l)], .bool (mkB m l)]) ∧ Below W.heap.size W w'))
      have eN : exF l m = lfX 1 (lowN m l) (lowD m l) := rfl
      have eD : exG l m = lfY 1 (lowN m l) (lowD m l) := rfl
      obtain ⟨n1, n2, d1, d2⟩ : (-9223372036854775808 ≤ lowN m l ∧ lowN m l ≤ 9223372036854775807 ∧ -9223372036854775808 ≤ lowD m l ∧ lowD m l ≤ 9223372036854775807) := by
        have := ham.a; have := ham.b; have := ham.c; have := ham.d
        omega
      have hE := ex_yes l m hk
      have hE0 : lfB 1 (lowN m l) (lowD m l) = false → exB l m = false := fun h => by simp [exB, h]
      rw [eN, eD] at hE
      clear eN eD ham
      generalize lowN m l = p at *
      generalize lowD m l = q at *
      have hF := Lib.hid (fun W : World => fuelOut_pub p q ⟨n1, n2⟩ ⟨d1, d2⟩ W)
      cases h3 : lfB 1 p q
      · have e1 := hE0 h3
        rw [(ex_no l m e1).1, (ex_no l m e1).2, e1]
        rw [h3] at hF
        have e4 : lfX 1 p q = 0 := by unfold lfX; rw [h3]; rfl
        have e5 : lfY 1 p q = 0 := by unfold lfY; rw [h3]; rfl
        rw [e4, e5] at hF
        clear hE hE0 e1 e4 e5
        go_enter Try.func21, Try.ntmps21
        go_wp2_with (first | (go_at_call 27; refine (load_impl _ _).mono ?_; rintro e w1 ⟨rfl, rfl⟩; rw [h1]) | (go_at_call 33; refine (miles_impl _ _).mono ?_; rintro e w1 ⟨rfl, rfl⟩; rw [h2]))
        refine (hM.out _).mono ?_; rintro e w1 ⟨rfl, hb1⟩; (have ha1 : Below w.heap.size w w1 := by (repeat (first | with_reducible exact Below.refl _ _ | with_reducible assumption | with_reducible refine balloc ?_ _ | with_reducible refine bdrew ?_ | with_reducible refine below_drewN ?_ _ | with_reducible refine bset ?_ ?_ _ | with_reducible exact Nat.le_refl _ | with_reducible refine bsize ?_ | (dsimp only; refine Nat.le_trans ?_ (Nat.le_add_right _ _)) | with_reducible refine Nat.le_trans ?_ (Nat.le_add_right _ _) | (with_reducible refine bstep ?_ (by assumption))))); obtain ⟨kc1, kf1, kz1, ky1, kx1, kv1, ku1⟩ := bcell hb1
        have q1_h_0 : w1.cell? ⟨w.heap.size, 0, none⟩ = some (.int .i64 0) := by rw [kc1 _ _ (by first | assumption | (simp; done) | (simp; omega) | omega)]; simp [go_sem]
        have r1_h_0 : w1.frozen? ⟨w.heap.size, 0, none⟩ = false := by rw [kf1 _ _ (by first | assumption | (simp; done) | (simp; omega) | omega)]; simp [go_sem]
        have q1_h_1 : w1.cell? ⟨w.heap.size, 1, none⟩ = some (.int .i64 0) := by rw [kc1 _ _ (by first | assumption | (simp; done) | (simp; omega) | omega)]; simp [go_sem]
        have r1_h_1 : w1.frozen? ⟨w.heap.size, 1, none⟩ = false := by rw [kf1 _ _ (by first | assumption | (simp; done) | (simp; omega) | omega)]; simp [go_sem]
        have z1_h : w.heap.size < w1.heap.size := kz1 _ (by first | assumption | (simp; done) | (simp; omega) | omega)
        clear kc1 kf1 kz1 ky1 kx1 kv1 ku1 hb1
        (go_wp2_with fail; refine (hF.out _).mono ?_; rintro e w2 ⟨rfl, hb2⟩; (have ha2 : Below w.heap.size w w2 := by (repeat (first | with_reducible exact Below.refl _ _ | with_reducible assumption | with_reducible refine balloc ?_ _ | with_reducible refine bdrew ?_ | with_reducible refine below_drewN ?_ _ | with_reducible refine bset ?_ ?_ _ | with_reducible exact Nat.le_refl _ | with_reducible refine bsize ?_ | (dsimp only; refine Nat.le_trans ?_ (Nat.le_add_right _ _)) | with_reducible refine Nat.le_trans ?_ (Nat.le_add_right _ _) | (with_reducible refine bstep ?_ (by assumption))))); obtain ⟨kc2, kf2, kz2, ky2, kx2, kv2, ku2⟩ := bcell hb2)
        have q2_h_0 : w2.cell? ⟨w.heap.size, 0, none⟩ = some (.int .i64 0) := by rw [kc2 _ _ (by first | assumption | (simp; done) | (simp; omega) | omega)]; simp [go_sem, q1_h_0, r1_h_0, q1_h_1, r1_h_1, z1_h]
        have r2_h_0 : w2.frozen? ⟨w.heap.size, 0, none⟩ = false := by rw [kf2 _ _ (by first | assumption | (simp; done) | (simp; omega) | omega)]; simp [go_sem, q1_h_0, r1_h_0, q1_h_1, r1_h_1, z1_h]
        have q2_h_1 : w2.cell? ⟨w.heap.size, 1, none⟩ = some (.int .i64 0) := by rw [kc2 _ _ (by first | assumption | (simp; done) | (simp; omega) | omega)]; simp [go_sem, q1_h_0, r1_h_0, q1_h_1, r1_h_1, z1_h]
        have r2_h_1 : w2.frozen? ⟨w.heap.size, 1, none⟩ = false := by rw [kf2 _ _ (by first | assumption | (simp; done) | (simp; omega) | omega)]; simp [go_sem, q1_h_0, r1_h_0, q1_h_1, r1_h_1, z1_h]
        have z2_h : w.heap.size < w2.heap.size := kz2 _ (by first | assumption | (simp; done) | (simp; omega) | omega)
        clear kc2 kf2 kz2 ky2 kx2 kv2 ku2 hb2 q1_h_0 r1_h_0 q1_h_1 r1_h_1 z1_h
        go_wp2
        refine bodyPost_ret (v := .tuple #[.agg #[.int .i64 0, .int .i64 0], .bool false]) (by simp only [results, Try.results21]; go_simp) rfl ⟨rfl, ?_⟩
        (repeat (first | with_reducible exact Below.refl _ _ | with_reducible assumption | with_reducible refine balloc ?_ _ | with_reducible refine bdrew ?_ | with_reducible refine below_drewN ?_ _ | with_reducible refine bset ?_ ?_ _ | with_reducible exact Nat.le_refl _ | with_reducible refine bsize ?_ | (dsimp only; refine Nat.le_trans ?_ (Nat.le_add_right _ _)) | with_reducible refine Nat.le_trans ?_ (Nat.le_add_right _ _) | (with_reducible refine bstep ?_ (by assumption))))
      · obtain ⟨e1, e2, e3⟩ := hE h3
        rw [e1, e2, e3]
        have ha := lf_am 1 p q h3
        have hA := am_of _ _ ha
        rw [h3] at hF
        obtain ⟨f1, f2, f3, f4⟩ : (-9223372036854775808 ≤ lfX 1 p q ∧ lfX 1 p q ≤ 9223372036854775807 ∧ -9223372036854775808 ≤ lfY 1 p q ∧ lfY 1 p q ≤ 9223372036854775807) := by
          have := hA.a; have := hA.b; have := hA.c; have := hA.d
          omega
        clear hE hE0 e1 e2 e3
        generalize lfX 1 p q = f at *
        generalize lfY 1 p q = g at *
        have hT := Lib.hid (fun W : World => times1_impl f g l ⟨f1, f2⟩ ⟨f3, f4⟩ (by omega) (by omega) W)
        clear hA
        try (have hT := hT.out; rw [ha, (two_yes (f * l) g).1, (two_yes (f * l) g).2.1, (two_yes (f * l) g).2.2] at hT; replace hT := Lib.hid hT)
        obtain ⟨R1, hR1⟩ : ∃ R1, lowN (f * l) g = R1 := ⟨_, rfl⟩
        obtain ⟨R2, hR2⟩ : ∃ R2, lowD (f * l) g = R2 := ⟨_, rfl⟩
        obtain ⟨R3, hR3⟩ : ∃ R3, lowB (f * l) g = R3 := ⟨_, rfl⟩
        rw [hR1, hR2, hR3]
        rw [hR1, hR2, hR3] at hT
        clear hR1 hR2 hR3
        go_enter Try.func21, Try.ntmps21
        go_wp2_with (first | (go_at_call 27; refine (load_impl _ _).mono ?_; rintro e w1 ⟨rfl, rfl⟩; rw [h1]) | (go_at_call 33; refine (miles_impl _ _).mono ?_; rintro e w1 ⟨rfl, rfl⟩; rw [h2]))
        refine (hM.out _).mono ?_; rintro e w1 ⟨rfl, hb1⟩; (have ha1 : Below w.heap.size w w1 := by (repeat (first | with_reducible exact Below.refl _ _ | with_reducible assumption | with_reducible refine balloc ?_ _ | with_reducible refine bdrew ?_ | with_reducible refine below_drewN ?_ _ | with_reducible refine bset ?_ ?_ _ | with_reducible exact Nat.le_refl _ | with_reducible refine bsize ?_ | (dsimp only; refine Nat.le_trans ?_ (Nat.le_add_right _ _)) | with_reducible refine Nat.le_trans ?_ (Nat.le_add_right _ _) | (with_reducible refine bstep ?_ (by assumption))))); obtain ⟨kc1, kf1, kz1, ky1, kx1, kv1, ku1⟩ := bcell hb1
        have q1_h_0 : w1.cell? ⟨w.heap.size, 0, none⟩ = some (.int .i64 0) := by rw [kc1 _ _ (by first | assumption | (simp; done) | (simp; omega) | omega)]; simp [go_sem]
        have r1_h_0 : w1.frozen? ⟨w.heap.size, 0, none⟩ = false := by rw [kf1 _ _ (by first | assumption | (simp; done) | (simp; omega) | omega)]; simp [go_sem]
        have q1_h_1 : w1.cell? ⟨w.heap.size, 1, none⟩ = some (.int .i64 0) := by rw [kc1 _ _ (by first | assumption | (simp; done) | (simp; omega) | omega)]; simp [go_sem]
        have r1_h_1 : w1.frozen? ⟨w.heap.size, 1, none⟩ = false := by rw [kf1 _ _ (by first | assumption | (simp; done) | (simp; omega) | omega)]; simp [go_sem]
        have z1_h : w.heap.size < w1.heap.size := kz1 _ (by first | assumption | (simp; done) | (simp; omega) | omega)
        clear kc1 kf1 kz1 ky1 kx1 kv1 ku1 hb1
        (go_wp2_with fail; refine (hF.out _).mono ?_; rintro e w2 ⟨rfl, hb2⟩; (have ha2 : Below w.heap.size w w2 := by (repeat (first | with_reducible exact Below.refl _ _ | with_reducible assumption | with_reducible refine balloc ?_ _ | with_reducible refine bdrew ?_ | with_reducible refine below_drewN ?_ _ | with_reducible refine bset ?_ ?_ _ | with_reducible exact Nat.le_refl _ | with_reducible refine bsize ?_ | (dsimp only; refine Nat.le_trans ?_ (Nat.le_add_right _ _)) | with_reducible refine Nat.le_trans ?_ (Nat.le_add_right _ _) | (with_reducible refine bstep ?_ (by assumption))))); obtain ⟨kc2, kf2, kz2, ky2, kx2, kv2, ku2⟩ := bcell hb2)
        have q2_h_0 : w2.cell? ⟨w.heap.size, 0, none⟩ = some (.int .i64 0) := by rw [kc2 _ _ (by first | assumption | (simp; done) | (simp; omega) | omega)]; simp [go_sem, q1_h_0, r1_h_0, q1_h_1, r1_h_1, z1_h]
        have r2_h_0 : w2.frozen? ⟨w.heap.size, 0, none⟩ = false := by rw [kf2 _ _ (by first | assumption | (simp; done) | (simp; omega) | omega)]; simp [go_sem, q1_h_0, r1_h_0, q1_h_1, r1_h_1, z1_h]
        have q2_h_1 : w2.cell? ⟨w.heap.size, 1, none⟩ = some (.int .i64 0) := by rw [kc2 _ _ (by first | assumption | (simp; done) | (simp; omega) | omega)]; simp [go_sem, q1_h_0, r1_h_0, q1_h_1, r1_h_1, z1_h]
        have r2_h_1 : w2.frozen? ⟨w.heap.size, 1, none⟩ = false := by rw [kf2 _ _ (by first | assumption | (simp; done) | (simp; omega) | omega)]; simp [go_sem, q1_h_0, r1_h_0, q1_h_1, r1_h_1, z1_h]
        have z2_h : w.heap.size < w2.heap.size := kz2 _ (by first | assumption | (simp; done) | (simp; omega) | omega)
        clear kc2 kf2 kz2 ky2 kx2 kv2 ku2 hb2 q1_h_0 r1_h_0 q1_h_1 r1_h_1 z1_h
        have hg0 : w.heap.size < w2.heap.size + 1 := by omega
        have hg1 : w.heap.size < w2.heap.size + 1 + 1 := by omega
        have hs0 : ¬ (w.heap.size = w2.heap.size) := by omega
        have hs1 : ¬ (w.heap.size = w2.heap.size + 1) := by omega
        go_wp2
        first | (go_region_with (first | (go_at_call 37; refine (whole_is_impl _ _).mono ?_; rintro e w3 ⟨rfl, rfl⟩) | (go_at_call 36; refine (hT.out _).mono ?_; rintro e w4 ⟨rfl, hb4⟩; (have ha4 : Below w.heap.size w w4 := by (repeat (first | with_reducible exact Below.refl _ _ | with_reducible assumption | with_reducible refine balloc ?_ _ | with_reducible refine bdrew ?_ | with_reducible refine below_drewN ?_ _ | with_reducible refine bset ?_ ?_ _ | with_reducible exact Nat.le_refl _ | with_reducible refine bsize ?_ | (dsimp only; refine Nat.le_trans ?_ (Nat.le_add_right _ _)) | with_reducible refine Nat.le_trans ?_ (Nat.le_add_right _ _) | (with_reducible refine bstep ?_ (by assumption))))); obtain ⟨kc4, kf4, kz4, ky4, kx4, kv4, ku4⟩ := bcell hb4; (have t0 : w4.cell? ⟨w.heap.size, 0, none⟩ = some (.int .i64 0) := by rw [kc4 _ _ (by first | assumption | (simp; done) | (simp; omega) | omega)]; simp [go_sem, *]); (have t1 : w4.cell? ⟨w.heap.size, 1, none⟩ = some (.int .i64 0) := by rw [kc4 _ _ (by first | assumption | (simp; done) | (simp; omega) | omega)]; simp [go_sem, *]); (have t2 : w4.frozen? ⟨w.heap.size, 0, none⟩ = false := by rw [kf4 _ _ (by first | assumption | (simp; done) | (simp; omega) | omega)]; simp [go_sem, *]); (have t3 : w4.frozen? ⟨w.heap.size, 1, none⟩ = false := by rw [kf4 _ _ (by first | assumption | (simp; done) | (simp; omega) | omega)]; simp [go_sem, *]); (have t4 : w.heap.size < w4.heap.size := kz4 _ (by first | assumption | (simp; done) | (simp; omega) | omega)); clear kc4 kf4 kz4 ky4 kx4 kv4 ku4))) | fail
        all_goals go_wp2
        all_goals refine bodyPost_ret (v := .tuple #[.agg #[.int .i64 R1, .int .i64 R2], .bool R3]) (by simp only [results, Try.results21]; go_simp) rfl ⟨rfl, ?_⟩
        all_goals (repeat (first | with_reducible exact Below.refl _ _ | with_reducible assumption | with_reducible refine balloc ?_ _ | with_reducible refine bdrew ?_ | with_reducible refine below_drewN ?_ _ | with_reducible refine bset ?_ ?_ _ | with_reducible exact Nat.le_refl _ | with_reducible refine bsize ?_ | (dsimp only; refine Nat.le_trans ?_ (Nat.le_add_right _ _)) | with_reducible refine Nat.le_trans ?_ (Nat.le_add_right _ _) | (with_reducible refine bstep ?_ (by assumption))))
set_option maxHeartbeats 3200000 in
theorem cnExact_spec (l m : Int) (w : World) :
    Calls Try.prog 32 #[.int .i64 l, .int .i64 m] w fun e w' => e = .returned (.tuple #[.agg #[.int .i64 (exX l m), .int .i64 (exY l m)], .bool (exB l m)]) ∧ Below w.heap.size w w' := by
  cases h1 : inB l 2 20
  · have e1 : exB l m = false := by simp [exB, exOk, h1]
    rw [(ex_no l m e1).1, (ex_no l m e1).2, e1]
    go_enter Try.func32, Try.ntmps32
    go_wp2_with (first | (go_at_call 30; refine (in_spec _ _ _ _).mono ?_; rintro e w1 ⟨rfl, rfl⟩; first | rw [h1] | rw [h2]))
    refine bodyPost_ret (v := .tuple #[.agg #[.int .i64 0, .int .i64 0], .bool false]) (by simp only [results, Try.results32]; go_simp) rfl ⟨rfl, ?_⟩
    (repeat (first | with_reducible exact Below.refl _ _ | with_reducible assumption | with_reducible refine balloc ?_ _ | with_reducible refine bdrew ?_ | with_reducible refine below_drewN ?_ _ | with_reducible refine bset ?_ ?_ _ | with_reducible exact Nat.le_refl _ | with_reducible refine bsize ?_ | (dsimp only; refine Nat.le_trans ?_ (Nat.le_add_right _ _)) | with_reducible refine Nat.le_trans ?_ (Nat.le_add_right _ _) | (with_reducible refine bstep ?_ (by assumption))))
  · cases h2 : inB m 0 100
    · have e1 : exB l m = false := by simp [exB, exOk, h2]
      rw [(ex_no l m e1).1, (ex_no l m e1).2, e1]
      go_enter Try.func32, Try.ntmps32
      go_wp2_with (first | (go_at_call 30; refine (in_spec _ _ _ _).mono ?_; rintro e w1 ⟨rfl, rfl⟩; first | rw [h1] | rw [h2]))
      refine bodyPost_ret (v := .tuple #[.agg #[.int .i64 0, .int .i64 0], .bool false]) (by simp only [results, Try.results32]; go_simp) rfl ⟨rfl, ?_⟩
      (repeat (first | with_reducible exact Below.refl _ _ | with_reducible assumption | with_reducible refine balloc ?_ _ | with_reducible refine bdrew ?_ | with_reducible refine below_drewN ?_ _ | with_reducible refine bset ?_ ?_ _ | with_reducible exact Nat.le_refl _ | with_reducible refine bsize ?_ | (dsimp only; refine Nat.le_trans ?_ (Nat.le_add_right _ _)) | with_reducible refine Nat.le_trans ?_ (Nat.le_add_right _ _) | (with_reducible refine bstep ?_ (by assumption))))
    · have hk : exOk l m = true := by simp [exOk, h1, h2]
      have hb := exOk_yes hk
      have hlow := lowB_small m l hb.2.2.1 hb.2.2.2 hb.1 hb.2.1
      have ham := am_of _ _ (amB_low m l hlow)
      have hM := Lib.hid (fun W : World => make_spec m l (by omega) (by omega) (by omega) (by omega) W)
      have eN : exF l m = lfX 1 (lowN m l) (lowD m l) := rfl
      have eD : exG l m = lfY 1 (lowN m l) (lowD m l) := rfl
      obtain ⟨n1, n2, d1, d2⟩ : (-9223372036854775808 ≤ lowN m l ∧ lowN m l ≤ 9223372036854775807 ∧ -9223372036854775808 ≤ lowD m l ∧ lowD m l ≤ 9223372036854775807) := by
        have := ham.a; have := ham.b; have := ham.c; have := ham.d
        omega
      have hE := ex_yes l m hk
      have hE0 : lfB 1 (lowN m l) (lowD m l) = false → exB l m = false := fun h => by simp [exB, h]
      rw [eN, eD] at hE
      clear eN eD ham
      generalize lowN m l = p at *
      generalize lowD m l = q at *
      have hF := Lib.hid (fun W : World => needOut_spec p q W)
      cases h3 : lfB 1 p q
      · have e1 := hE0 h3
        rw [(ex_no l m e1).1, (ex_no l m e1).2, e1]
        rw [h3] at hF
        have e4 : lfX 1 p q = 0 := by unfold lfX; rw [h3]; rfl
        have e5 : lfY 1 p q = 0 := by unfold lfY; rw [h3]; rfl
        rw [e4, e5] at hF
        clear hE hE0 e1 e4 e5
        go_enter Try.func32, Try.ntmps32
        go_wp2_with (first | (go_at_call 30; refine (in_spec _ _ _ _).mono ?_; rintro e w1 ⟨rfl, rfl⟩; first | rw [h1] | rw [h2]))
        refine (hM.out _).mono ?_; rintro e w1 ⟨rfl, hb1⟩; (have ha1 : Below w.heap.size w w1 := by (repeat (first | with_reducible exact Below.refl _ _ | with_reducible assumption | with_reducible refine balloc ?_ _ | with_reducible refine bdrew ?_ | with_reducible refine below_drewN ?_ _ | with_reducible refine bset ?_ ?_ _ | with_reducible exact Nat.le_refl _ | with_reducible refine bsize ?_ | (dsimp only; refine Nat.le_trans ?_ (Nat.le_add_right _ _)) | with_reducible refine Nat.le_trans ?_ (Nat.le_add_right _ _) | (with_reducible refine bstep ?_ (by assumption))))); obtain ⟨kc1, kf1, kz1, ky1, kx1, kv1, ku1⟩ := bcell hb1
        have q1_h_0 : w1.cell? ⟨w.heap.size, 0, none⟩ = some (.int .i64 0) := by rw [kc1 _ _ (by first | assumption | (simp; done) | (simp; omega) | omega)]; simp [go_sem]
        have r1_h_0 : w1.frozen? ⟨w.heap.size, 0, none⟩ = false := by rw [kf1 _ _ (by first | assumption | (simp; done) | (simp; omega) | omega)]; simp [go_sem]
        have q1_h_1 : w1.cell? ⟨w.heap.size, 1, none⟩ = some (.int .i64 0) := by rw [kc1 _ _ (by first | assumption | (simp; done) | (simp; omega) | omega)]; simp [go_sem]
        have r1_h_1 : w1.frozen? ⟨w.heap.size, 1, none⟩ = false := by rw [kf1 _ _ (by first | assumption | (simp; done) | (simp; omega) | omega)]; simp [go_sem]
        have z1_h : w.heap.size < w1.heap.size := kz1 _ (by first | assumption | (simp; done) | (simp; omega) | omega)
        clear kc1 kf1 kz1 ky1 kx1 kv1 ku1 hb1
        (go_wp2_with fail; refine (hF.out _).mono ?_; rintro e w2 ⟨rfl, hb2⟩; (have ha2 : Below w.heap.size w w2 := by (repeat (first | with_reducible exact Below.refl _ _ | with_reducible assumption | with_reducible refine balloc ?_ _ | with_reducible refine bdrew ?_ | with_reducible refine below_drewN ?_ _ | with_reducible refine bset ?_ ?_ _ | with_reducible exact Nat.le_refl _ | with_reducible refine bsize ?_ | (dsimp only; refine Nat.le_trans ?_ (Nat.le_add_right _ _)) | with_reducible refine Nat.le_trans ?_ (Nat.le_add_right _ _) | (with_reducible refine bstep ?_ (by assumption))))); obtain ⟨kc2, kf2, kz2, ky2, kx2, kv2, ku2⟩ := bcell hb2)
        have q2_h_0 : w2.cell? ⟨w.heap.size, 0, none⟩ = some (.int .i64 0) := by rw [kc2 _ _ (by first | assumption | (simp; done) | (simp; omega) | omega)]; simp [go_sem, q1_h_0, r1_h_0, q1_h_1, r1_h_1, z1_h]
        have r2_h_0 : w2.frozen? ⟨w.heap.size, 0, none⟩ = false := by rw [kf2 _ _ (by first | assumption | (simp; done) | (simp; omega) | omega)]; simp [go_sem, q1_h_0, r1_h_0, q1_h_1, r1_h_1, z1_h]
        have q2_h_1 : w2.cell? ⟨w.heap.size, 1, none⟩ = some (.int .i64 0) := by rw [kc2 _ _ (by first | assumption | (simp; done) | (simp; omega) | omega)]; simp [go_sem, q1_h_0, r1_h_0, q1_h_1, r1_h_1, z1_h]
        have r2_h_1 : w2.frozen? ⟨w.heap.size, 1, none⟩ = false := by rw [kf2 _ _ (by first | assumption | (simp; done) | (simp; omega) | omega)]; simp [go_sem, q1_h_0, r1_h_0, q1_h_1, r1_h_1, z1_h]
        have z2_h : w.heap.size < w2.heap.size := kz2 _ (by first | assumption | (simp; done) | (simp; omega) | omega)
        clear kc2 kf2 kz2 ky2 kx2 kv2 ku2 hb2 q1_h_0 r1_h_0 q1_h_1 r1_h_1 z1_h
        go_wp2
        refine bodyPost_ret (v := .tuple #[.agg #[.int .i64 0, .int .i64 0], .bool false]) (by simp only [results, Try.results32]; go_simp) rfl ⟨rfl, ?_⟩
        (repeat (first | with_reducible exact Below.refl _ _ | with_reducible assumption | with_reducible refine balloc ?_ _ | with_reducible refine bdrew ?_ | with_reducible refine below_drewN ?_ _ | with_reducible refine bset ?_ ?_ _ | with_reducible exact Nat.le_refl _ | with_reducible refine bsize ?_ | (dsimp only; refine Nat.le_trans ?_ (Nat.le_add_right _ _)) | with_reducible refine Nat.le_trans ?_ (Nat.le_add_right _ _) | (with_reducible refine bstep ?_ (by assumption))))
      · obtain ⟨e1, e2, e3⟩ := hE h3
        rw [e1, e2, e3]
        have ha := lf_am 1 p q h3
        have hA := am_of _ _ ha
        rw [h3] at hF
        obtain ⟨f1, f2, f3, f4⟩ : (-9223372036854775808 ≤ lfX 1 p q ∧ lfX 1 p q ≤ 9223372036854775807 ∧ -9223372036854775808 ≤ lfY 1 p q ∧ lfY 1 p q ≤ 9223372036854775807) := by
          have := hA.a; have := hA.b; have := hA.c; have := hA.d
          omega
        clear hE hE0 e1 e2 e3
        generalize lfX 1 p q = f at *
        generalize lfY 1 p q = g at *
        have hT := Lib.hid (fun W : World => times1_spec f g l hA (by omega) (by omega) W)
        clear hA
        try (have hT := hT.out; rw [ha, (two_yes (f * l) g).1, (two_yes (f * l) g).2.1, (two_yes (f * l) g).2.2] at hT; replace hT := Lib.hid hT)
        obtain ⟨R1, hR1⟩ : ∃ R1, lowN (f * l) g = R1 := ⟨_, rfl⟩
        obtain ⟨R2, hR2⟩ : ∃ R2, lowD (f * l) g = R2 := ⟨_, rfl⟩
        obtain ⟨R3, hR3⟩ : ∃ R3, lowB (f * l) g = R3 := ⟨_, rfl⟩
        rw [hR1, hR2, hR3]
        rw [hR1, hR2, hR3] at hT
        clear hR1 hR2 hR3
        go_enter Try.func32, Try.ntmps32
        go_wp2_with (first | (go_at_call 30; refine (in_spec _ _ _ _).mono ?_; rintro e w1 ⟨rfl, rfl⟩; first | rw [h1] | rw [h2]))
        refine (hM.out _).mono ?_; rintro e w1 ⟨rfl, hb1⟩; (have ha1 : Below w.heap.size w w1 := by (repeat (first | with_reducible exact Below.refl _ _ | with_reducible assumption | with_reducible refine balloc ?_ _ | with_reducible refine bdrew ?_ | with_reducible refine below_drewN ?_ _ | with_reducible refine bset ?_ ?_ _ | with_reducible exact Nat.le_refl _ | with_reducible refine bsize ?_ | (dsimp only; refine Nat.le_trans ?_ (Nat.le_add_right _ _)) | with_reducible refine Nat.le_trans ?_ (Nat.le_add_right _ _) | (with_reducible refine bstep ?_ (by assumption))))); obtain ⟨kc1, kf1, kz1, ky1, kx1, kv1, ku1⟩ := bcell hb1
        have q1_h_0 : w1.cell? ⟨w.heap.size, 0, none⟩ = some (.int .i64 0) := by rw [kc1 _ _ (by first | assumption | (simp; done) | (simp; omega) | omega)]; simp [go_sem]
        have r1_h_0 : w1.frozen? ⟨w.heap.size, 0, none⟩ = false := by rw [kf1 _ _ (by first | assumption | (simp; done) | (simp; omega) | omega)]; simp [go_sem]
        have q1_h_1 : w1.cell? ⟨w.heap.size, 1, none⟩ = some (.int .i64 0) := by rw [kc1 _ _ (by first | assumption | (simp; done) | (simp; omega) | omega)]; simp [go_sem]
        have r1_h_1 : w1.frozen? ⟨w.heap.size, 1, none⟩ = false := by rw [kf1 _ _ (by first | assumption | (simp; done) | (simp; omega) | omega)]; simp [go_sem]
        have z1_h : w.heap.size < w1.heap.size := kz1 _ (by first | assumption | (simp; done) | (simp; omega) | omega)
        clear kc1 kf1 kz1 ky1 kx1 kv1 ku1 hb1
        (go_wp2_with fail; refine (hF.out _).mono ?_; rintro e w2 ⟨rfl, hb2⟩; (have ha2 : Below w.heap.size w w2 := by (repeat (first | with_reducible exact Below.refl _ _ | with_reducible assumption | with_reducible refine balloc ?_ _ | with_reducible refine bdrew ?_ | with_reducible refine below_drewN ?_ _ | with_reducible refine bset ?_ ?_ _ | with_reducible exact Nat.le_refl _ | with_reducible refine bsize ?_ | (dsimp only; refine Nat.le_trans ?_ (Nat.le_add_right _ _)) | with_reducible refine Nat.le_trans ?_ (Nat.le_add_right _ _) | (with_reducible refine bstep ?_ (by assumption))))); obtain ⟨kc2, kf2, kz2, ky2, kx2, kv2, ku2⟩ := bcell hb2)
        have q2_h_0 : w2.cell? ⟨w.heap.size, 0, none⟩ = some (.int .i64 0) := by rw [kc2 _ _ (by first | assumption | (simp; done) | (simp; omega) | omega)]; simp [go_sem, q1_h_0, r1_h_0, q1_h_1, r1_h_1, z1_h]
        have r2_h_0 : w2.frozen? ⟨w.heap.size, 0, none⟩ = false := by rw [kf2 _ _ (by first | assumption | (simp; done) | (simp; omega) | omega)]; simp [go_sem, q1_h_0, r1_h_0, q1_h_1, r1_h_1, z1_h]
        have q2_h_1 : w2.cell? ⟨w.heap.size, 1, none⟩ = some (.int .i64 0) := by rw [kc2 _ _ (by first | assumption | (simp; done) | (simp; omega) | omega)]; simp [go_sem, q1_h_0, r1_h_0, q1_h_1, r1_h_1, z1_h]
        have r2_h_1 : w2.frozen? ⟨w.heap.size, 1, none⟩ = false := by rw [kf2 _ _ (by first | assumption | (simp; done) | (simp; omega) | omega)]; simp [go_sem, q1_h_0, r1_h_0, q1_h_1, r1_h_1, z1_h]
        have z2_h : w.heap.size < w2.heap.size := kz2 _ (by first | assumption | (simp; done) | (simp; omega) | omega)
        clear kc2 kf2 kz2 ky2 kx2 kv2 ku2 hb2 q1_h_0 r1_h_0 q1_h_1 r1_h_1 z1_h
        have hg0 : w.heap.size < w2.heap.size + 1 := by omega
        have hg1 : w.heap.size < w2.heap.size + 1 + 1 := by omega
        have hs0 : ¬ (w.heap.size = w2.heap.size) := by omega
        have hs1 : ¬ (w.heap.size = w2.heap.size + 1) := by omega
        go_wp2
        first | (go_region_with (first | (go_at_call 45; refine (whole_is_spec _ _).mono ?_; rintro e w3 ⟨rfl, rfl⟩) | (go_at_call 44; refine (hT.out _).mono ?_; rintro e w4 ⟨rfl, hb4⟩; (have ha4 : Below w.heap.size w w4 := by (repeat (first | with_reducible exact Below.refl _ _ | with_reducible assumption | with_reducible refine balloc ?_ _ | with_reducible refine bdrew ?_ | with_reducible refine below_drewN ?_ _ | with_reducible refine bset ?_ ?_ _ | with_reducible exact Nat.le_refl _ | with_reducible refine bsize ?_ | (dsimp only; refine Nat.le_trans ?_ (Nat.le_add_right _ _)) | with_reducible refine Nat.le_trans ?_ (Nat.le_add_right _ _) | (with_reducible refine bstep ?_ (by assumption))))); obtain ⟨kc4, kf4, kz4, ky4, kx4, kv4, ku4⟩ := bcell hb4; (have t0 : w4.cell? ⟨w.heap.size, 0, none⟩ = some (.int .i64 0) := by rw [kc4 _ _ (by first | assumption | (simp; done) | (simp; omega) | omega)]; simp [go_sem, *]); (have t1 : w4.cell? ⟨w.heap.size, 1, none⟩ = some (.int .i64 0) := by rw [kc4 _ _ (by first | assumption | (simp; done) | (simp; omega) | omega)]; simp [go_sem, *]); (have t2 : w4.frozen? ⟨w.heap.size, 0, none⟩ = false := by rw [kf4 _ _ (by first | assumption | (simp; done) | (simp; omega) | omega)]; simp [go_sem, *]); (have t3 : w4.frozen? ⟨w.heap.size, 1, none⟩ = false := by rw [kf4 _ _ (by first | assumption | (simp; done) | (simp; omega) | omega)]; simp [go_sem, *]); (have t4 : w.heap.size < w4.heap.size := kz4 _ (by first | assumption | (simp; done) | (simp; omega) | omega)); clear kc4 kf4 kz4 ky4 kx4 kv4 ku4))) | fail
        all_goals go_wp2
        all_goals refine bodyPost_ret (v := .tuple #[.agg #[.int .i64 R1, .int .i64 R2], .bool R3]) (by simp only [results, Try.results32]; go_simp) rfl ⟨rfl, ?_⟩
        all_goals (repeat (first | with_reducible exact Below.refl _ _ | with_reducible assumption | with_reducible refine balloc ?_ _ | with_reducible refine bdrew ?_ | with_reducible refine below_drewN ?_ _ | with_reducible refine bset ?_ ?_ _ | with_reducible exact Nat.le_refl _ | with_reducible refine bsize ?_ | (dsimp only; refine Nat.le_trans ?_ (Nat.le_add_right _ _)) | with_reducible refine Nat.le_trans ?_ (Nat.le_add_right _ _) | (with_reducible refine bstep ?_ (by assumption))))
set_option maxHeartbeats 800000 in
theorem exact_spec (l m : Int) (w : World) :
    Calls Try.prog 20 #[.int .i64 l, .int .i64 m] w fun e w' => e = .returned (.tuple #[.agg #[.int .i64 (exX l m), .int .i64 (exY l m)], .bool (exB l m)]) ∧ Below w.heap.size w w' := by
  go_enter Try.func20, Try.ntmps20
  (go_wp2_with fail; refine (cnExact_spec l m _).mono ?_; rintro e w1 ⟨rfl, hb1⟩; have ha1 := hb1; obtain ⟨kc1, kf1, kz1, ky1, kx1, kv1, ku1⟩ := bcell hb1)
  go_wp2
  refine bodyPost_ret (v := .tuple #[.agg #[.int .i64 (exX l m), .int .i64 (exY l m)], .bool (exB l m)]) (by simp only [results, Try.results20]; go_simp) rfl ⟨rfl, ?_⟩
  (repeat (first | with_reducible exact Below.refl _ _ | with_reducible assumption | with_reducible refine balloc ?_ _ | with_reducible refine bdrew ?_ | with_reducible refine below_drewN ?_ _ | with_reducible refine bset ?_ ?_ _ | with_reducible exact Nat.le_refl _ | with_reducible refine bsize ?_ | (dsimp only; refine Nat.le_trans ?_ (Nat.le_add_right _ _)) | with_reducible refine Nat.le_trans ?_ (Nat.le_add_right _ _) | (with_reducible refine bstep ?_ (by assumption))))
end Go.Proofs.Ytbhdnocdpincpaa
