/- Camels: contracts of ask and of the public functions of the program. -/
import Derived.Test.YtgpbkjakmbmccaaCam3
namespace Go.Proofs.Ytgpbkjakmbmccaa
open Go.RowKit
set_option maxRecDepth 100000
set_option linter.unusedVariables false
set_option linter.unusedSimpArgs false

theorem askB_yes (L E n d : Int) (h : askB L E n d = true) : camB L E = true ∧ amB n d = true ∧ d ≤ 12 ∧ n ≤ 6 * L * d := by
  unfold askB at h; simp at h; exact ⟨h.1, h.2.1, h.2.2.1, h.2.2.2⟩
theorem plB_yes (n d : Int) (h : plB n d = true) : amB n d = true ∧ d ≤ 1000000 := by
  unfold plB at h; simpa using h
set_option maxHeartbeats 800000 in
theorem ask_no (L E n d p q : Int) (f : Value) (bn : -9223372036854775808 ≤ n ∧ n ≤ 9223372036854775807) (bd : -9223372036854775808 ≤ d ∧ d ≤ 9223372036854775807) (bp : -9223372036854775808 ≤ p ∧ p ≤ 9223372036854775807) (bq : -9223372036854775808 ≤ q ∧ q ≤ 9223372036854775807) (h : (askB L E n d && plB p q) = false) (w : World) :
    Calls Try.prog 57 #[.agg #[.int .i64 L, .int .i64 E], .agg #[.int .i64 n, .int .i64 d], .agg #[.int .i64 p, .int .i64 q], f] w fun e w' => e = .returned (.tuple #[.agg #[.int .i64 0, .int .i64 0], .bool false]) ∧ Below w.heap.size w w' := by
  cases h1 : askB L E n d
  · clear h
    go_enter Try.func57, Try.ntmps57
    (go_wp2_with fail; refine (ask_impl _ _ _ _ bn bd _).mono ?_; rintro e w1 ⟨rfl, hb1⟩; rw [h1]; have ha1 := hb1; obtain ⟨kc1, kf1, kz1, ky1, kx1, kv1, ku1⟩ := bcell hb1)
    go_wp2
    refine bodyPost_ret (v := .tuple #[.agg #[.int .i64 0, .int .i64 0], .bool false]) (by simp only [results, Try.results57]; go_simp) rfl ⟨rfl, ?_⟩
    (repeat (first | with_reducible exact Below.refl _ _ | with_reducible assumption | with_reducible refine balloc ?_ _ | with_reducible refine bdrew ?_ | with_reducible refine below_drewN ?_ _ | with_reducible refine bset ?_ ?_ _ | with_reducible exact Nat.le_refl _ | with_reducible refine bsize ?_ | (dsimp only; refine Nat.le_trans ?_ (Nat.le_add_right _ _)) | with_reducible refine Nat.le_trans ?_ (Nat.le_add_right _ _) | (with_reducible refine bstep ?_ (by assumption))))
  · have h2 : plB p q = false := by simpa [h1] using h
    clear h
    go_enter Try.func57, Try.ntmps57
    (go_wp2_with fail; refine (ask_impl _ _ _ _ bn bd _).mono ?_; rintro e w1 ⟨rfl, hb1⟩; rw [h1]; have ha1 := hb1; obtain ⟨kc1, kf1, kz1, ky1, kx1, kv1, ku1⟩ := bcell hb1)
    (go_wp2_with fail; refine (place_impl _ _ bp bq _).mono ?_; rintro e w2 ⟨rfl, hb2⟩; rw [h2]; have ha2 := bjoin ha1 hb2 (by (repeat (first | with_reducible exact Below.refl _ _ | with_reducible assumption | with_reducible refine balloc ?_ _ | with_reducible refine bdrew ?_ | with_reducible refine below_drewN ?_ _ | with_reducible refine bset ?_ ?_ _ | with_reducible exact Nat.le_refl _ | with_reducible refine bsize ?_ | (dsimp only; refine Nat.le_trans ?_ (Nat.le_add_right _ _)) | with_reducible refine Nat.le_trans ?_ (Nat.le_add_right _ _) | (with_reducible refine bstep ?_ (by assumption))))); obtain ⟨kc2, kf2, kz2, ky2, kx2, kv2, ku2⟩ := bcell hb2; obtain ⟨jc2, jf2, jz2, jy2, jx2, jv2, ju2⟩ := bcell ha2)
    go_wp2
    refine bodyPost_ret (v := .tuple #[.agg #[.int .i64 0, .int .i64 0], .bool false]) (by simp only [results, Try.results57]; go_simp) rfl ⟨rfl, ?_⟩
    (repeat (first | with_reducible exact Below.refl _ _ | with_reducible assumption | with_reducible refine balloc ?_ _ | with_reducible refine bdrew ?_ | with_reducible refine below_drewN ?_ _ | with_reducible refine bset ?_ ?_ _ | with_reducible exact Nat.le_refl _ | with_reducible refine bsize ?_ | (dsimp only; refine Nat.le_trans ?_ (Nat.le_add_right _ _)) | with_reducible refine Nat.le_trans ?_ (Nat.le_add_right _ _) | (with_reducible refine bstep ?_ (by assumption))))

def leftAtK (L E n d p q : Int) : Bool := askB L E n d && plB p q
def leftAtX (L E n d p q : Int) : Int := eS (L * (d * q)) (dS (L * (d * q)) (q * n) - d * 3465 * p * E)
def leftAtM (L E n d p q : Int) : Int := (d * q * 3465)
set_option maxHeartbeats 1600000 in
theorem ask_leftAt (L E n d p q : Int) (bn : -9223372036854775808 ≤ n ∧ n ≤ 9223372036854775807) (bd : -9223372036854775808 ≤ d ∧ d ≤ 9223372036854775807) (bp : -9223372036854775808 ≤ p ∧ p ≤ 9223372036854775807) (bq : -9223372036854775808 ≤ q ∧ q ≤ 9223372036854775807) (w : World) :
    Calls Try.prog 57 #[.agg #[.int .i64 L, .int .i64 E], .agg #[.int .i64 n, .int .i64 d], .agg #[.int .i64 p, .int .i64 q], .func (.func 58) #[] #[]] w fun e w' => e = .returned (.tuple #[.agg #[.int .i64 (twoN (leftAtK L E n d p q) (leftAtX L E n d p q) (leftAtM L E n d p q)), .int .i64 (twoD (leftAtK L E n d p q) (leftAtX L E n d p q) (leftAtM L E n d p q))], .bool (twoB (leftAtK L E n d p q) (leftAtX L E n d p q) (leftAtM L E n d p q))]) ∧ Below w.heap.size w w' := by
  cases h : askB L E n d && plB p q
  · have e : leftAtK L E n d p q = false := by simp only [leftAtK, h, Bool.false_and]
    rw [e, (two_no _ _).1, (two_no _ _).2.1, (two_no _ _).2.2]
    exact ask_no L E n d p q _ bn bd bp bq h w
  · have hh := h
    rw [Bool.and_eq_true] at hh
    obtain ⟨h1, h2⟩ := hh
    obtain ⟨i1, i2, i3, i4⟩ := askB_yes L E n d h1
    obtain ⟨i5, i6⟩ := plB_yes p q h2
    obtain ⟨j1, j2, j3, j4⟩ := camB_yes L E i1
    have a1 := am_of n d i2
    have a2 := am_of p q i5
    have C := Lib.hid (fun W => leftAt_impl L E n d p q j1 j2 j3 j4 a1.a a1.c i3 i4 a2.a a2.b a2.c i6 W)
    have HA := Lib.hid (fun W => ask_impl L E n d bn bd W)
    have HP := Lib.hid (fun W => place_impl p q bp bq W)
    rw [h1] at HA
    rw [h2] at HP
    have e : leftAtK L E n d p q = true := by simp only [leftAtK, h, Bool.true_and]
    rw [e]
    rw [(two_yes _ _).1, (two_yes _ _).2.1, (two_yes _ _).2.2]
    have eX : eS (L * (d * q)) (dS (L * (d * q)) (q * n) - d * 3465 * p * E) = leftAtX L E n d p q := rfl
    have eM : (d * q * 3465) = leftAtM L E n d p q := rfl
    rw [eX, eM] at C
    generalize leftAtX L E n d p q = X at *
    generalize leftAtM L E n d p q = M at *
    clear eX eM e h h1 h2 i1 i2 i3 i4 i5 i6 j1 j2 j3 j4 a1 a2
    go_enter Try.func57, Try.ntmps57
    (go_wp2_with fail; refine (HA.out _).mono ?_; rintro e w1 ⟨rfl, hb1⟩; have ha1 := hb1; obtain ⟨kc1, kf1, kz1, ky1, kx1, kv1, ku1⟩ := bcell hb1)
    (go_wp2_with fail; refine (HP.out _).mono ?_; rintro e w2 ⟨rfl, hb2⟩; have ha2 := bjoin ha1 hb2 (by (repeat (first | with_reducible exact Below.refl _ _ | with_reducible assumption | with_reducible refine balloc ?_ _ | with_reducible refine bdrew ?_ | with_reducible refine below_drewN ?_ _ | with_reducible refine bset ?_ ?_ _ | with_reducible exact Nat.le_refl _ | with_reducible refine bsize ?_ | (dsimp only; refine Nat.le_trans ?_ (Nat.le_add_right _ _)) | with_reducible refine Nat.le_trans ?_ (Nat.le_add_right _ _) | (with_reducible refine bstep ?_ (by assumption))))); obtain ⟨kc2, kf2, kz2, ky2, kx2, kv2, ku2⟩ := bcell hb2; obtain ⟨jc2, jf2, jz2, jy2, jx2, jv2, ju2⟩ := bcell ha2)
    (go_wp2_with fail; refine (C.out _).mono ?_; rintro e w3 ⟨rfl, hb3⟩; have ha3 := bjoin ha2 hb3 (by (repeat (first | with_reducible exact Below.refl _ _ | with_reducible assumption | with_reducible refine balloc ?_ _ | with_reducible refine bdrew ?_ | with_reducible refine below_drewN ?_ _ | with_reducible refine bset ?_ ?_ _ | with_reducible exact Nat.le_refl _ | with_reducible refine bsize ?_ | (dsimp only; refine Nat.le_trans ?_ (Nat.le_add_right _ _)) | with_reducible refine Nat.le_trans ?_ (Nat.le_add_right _ _) | (with_reducible refine bstep ?_ (by assumption))))); obtain ⟨kc3, kf3, kz3, ky3, kx3, kv3, ku3⟩ := bcell hb3; obtain ⟨jc3, jf3, jz3, jy3, jx3, jv3, ju3⟩ := bcell ha3)
    go_wp2
    refine bodyPost_ret (v := .tuple #[.agg #[.int .i64 (lowN (X) (M)), .int .i64 (lowD (X) (M))], .bool (lowB (X) (M))]) (by simp only [results, Try.results57]; go_simp) rfl ⟨rfl, ?_⟩
    (repeat (first | with_reducible exact Below.refl _ _ | with_reducible assumption | with_reducible refine balloc ?_ _ | with_reducible refine bdrew ?_ | with_reducible refine below_drewN ?_ _ | with_reducible refine bset ?_ ?_ _ | with_reducible exact Nat.le_refl _ | with_reducible refine bsize ?_ | (dsimp only; refine Nat.le_trans ?_ (Nat.le_add_right _ _)) | with_reducible refine Nat.le_trans ?_ (Nat.le_add_right _ _) | (with_reducible refine bstep ?_ (by assumption))))
set_option maxHeartbeats 400000 in
theorem leftAt_pub (L E n d p q : Int) (bn : -9223372036854775808 ≤ n ∧ n ≤ 9223372036854775807) (bd : -9223372036854775808 ≤ d ∧ d ≤ 9223372036854775807) (bp : -9223372036854775808 ≤ p ∧ p ≤ 9223372036854775807) (bq : -9223372036854775808 ≤ q ∧ q ≤ 9223372036854775807) (w : World) :
    Calls Try.prog 13 #[.agg #[.int .i64 L, .int .i64 E], .agg #[.int .i64 n, .int .i64 d], .agg #[.int .i64 p, .int .i64 q]] w fun e w' => e = .returned (.tuple #[.agg #[.int .i64 (twoN (leftAtK L E n d p q) (leftAtX L E n d p q) (leftAtM L E n d p q)), .int .i64 (twoD (leftAtK L E n d p q) (leftAtX L E n d p q) (leftAtM L E n d p q))], .bool (twoB (leftAtK L E n d p q) (leftAtX L E n d p q) (leftAtM L E n d p q))]) ∧ Below w.heap.size w w' := by
  have C := Lib.hid (fun W => ask_leftAt L E n d p q bn bd bp bq W)
  generalize leftAtX L E n d p q = X at *
  generalize leftAtM L E n d p q = M at *
  generalize leftAtK L E n d p q = K at *
  go_enter Try.func13, Try.ntmps13
  (go_wp2_with fail; refine (C.out _).mono ?_; rintro e w1 ⟨rfl, hb1⟩; have ha1 := hb1; obtain ⟨kc1, kf1, kz1, ky1, kx1, kv1, ku1⟩ := bcell hb1)
  go_wp2
  refine bodyPost_ret (v := .tuple #[.agg #[.int .i64 (twoN (K) (X) (M)), .int .i64 (twoD (K) (X) (M))], .bool (twoB (K) (X) (M))]) (by simp only [results, Try.results13]; go_simp) rfl ⟨rfl, ?_⟩
  (repeat (first | with_reducible exact Below.refl _ _ | with_reducible assumption | with_reducible refine balloc ?_ _ | with_reducible refine bdrew ?_ | with_reducible refine below_drewN ?_ _ | with_reducible refine bset ?_ ?_ _ | with_reducible exact Nat.le_refl _ | with_reducible refine bsize ?_ | (dsimp only; refine Nat.le_trans ?_ (Nat.le_add_right _ _)) | with_reducible refine Nat.le_trans ?_ (Nat.le_add_right _ _) | (with_reducible refine bstep ?_ (by assumption))))

def goodsForK (L E n d p q : Int) : Bool := (askB L E n d && plB p q) && (decide (dS (L * (d * q)) (q * n) + d * 3465 * p * E ≤ 6508 * (L * (d * q))))
def goodsForX (L E n d p q : Int) : Int := eS (L * (d * q)) (dS (L * (d * q)) (q * n) + d * 3465 * p * E)
def goodsForM (L E n d p q : Int) : Int := (d * q * 3465)
def wayWithK (L E n d p q : Int) : Bool := (askB L E n d && plB p q) && (decide (d * p ≤ 6 * (L * (d * q))))
def wayWithX (L E n d p q : Int) : Int := dS (L * (d * q)) (q * n) - dS (L * (d * q)) (d * p)
def wayWithM (L E n d p q : Int) : Int := (d * q * 3465) * E
set_option maxHeartbeats 1600000 in
theorem ask_wayWith (L E n d p q : Int) (bn : -9223372036854775808 ≤ n ∧ n ≤ 9223372036854775807) (bd : -9223372036854775808 ≤ d ∧ d ≤ 9223372036854775807) (bp : -9223372036854775808 ≤ p ∧ p ≤ 9223372036854775807) (bq : -9223372036854775808 ≤ q ∧ q ≤ 9223372036854775807) (w : World) :
    Calls Try.prog 57 #[.agg #[.int .i64 L, .int .i64 E], .agg #[.int .i64 n, .int .i64 d], .agg #[.int .i64 p, .int .i64 q], .func (.func 85) #[] #[]] w fun e w' => e = .returned (.tuple #[.agg #[.int .i64 (twoN (wayWithK L E n d p q) (wayWithX L E n d p q) (wayWithM L E n d p q)), .int .i64 (twoD (wayWithK L E n d p q) (wayWithX L E n d p q) (wayWithM L E n d p q))], .bool (twoB (wayWithK L E n d p q) (wayWithX L E n d p q) (wayWithM L E n d p q))]) ∧ Below w.heap.size w w' := by
  cases h : askB L E n d && plB p q
  · have e : wayWithK L E n d p q = false := by simp only [wayWithK, h, Bool.false_and]
    rw [e, (two_no _ _).1, (two_no _ _).2.1, (two_no _ _).2.2]
    exact ask_no L E n d p q _ bn bd bp bq h w
  · have hh := h
    rw [Bool.and_eq_true] at hh
    obtain ⟨h1, h2⟩ := hh
    obtain ⟨i1, i2, i3, i4⟩ := askB_yes L E n d h1
    obtain ⟨i5, i6⟩ := plB_yes p q h2
    obtain ⟨j1, j2, j3, j4⟩ := camB_yes L E i1
    have a1 := am_of n d i2
    have a2 := am_of p q i5
    have C := Lib.hid (fun W => wayWith_impl L E n d p q j1 j2 j3 j4 a1.a a1.c i3 i4 a2.a a2.b a2.c i6 W)
    have HA := Lib.hid (fun W => ask_impl L E n d bn bd W)
    have HP := Lib.hid (fun W => place_impl p q bp bq W)
    rw [h1] at HA
    rw [h2] at HP
    have e : wayWithK L E n d p q = (decide (d * p ≤ 6 * (L * (d * q)))) := by simp only [wayWithK, h, Bool.true_and]
    rw [e]
    have e2 : (decide (d * p ≤ 6 * (L * (d * q)))) = (decide (d * p ≤ 6 * (L * (d * q)))) := rfl
    generalize (decide (d * p ≤ 6 * (L * (d * q)))) = kk at C ⊢
    have eX : dS (L * (d * q)) (q * n) - dS (L * (d * q)) (d * p) = wayWithX L E n d p q := rfl
    have eM : (d * q * 3465) * E = wayWithM L E n d p q := rfl
    rw [eX, eM] at C
    generalize wayWithX L E n d p q = X at *
    generalize wayWithM L E n d p q = M at *
    clear eX eM e h h1 h2 i1 i2 i3 i4 i5 i6 j1 j2 j3 j4 a1 a2
    go_enter Try.func57, Try.ntmps57
    (go_wp2_with fail; refine (HA.out _).mono ?_; rintro e w1 ⟨rfl, hb1⟩; have ha1 := hb1; obtain ⟨kc1, kf1, kz1, ky1, kx1, kv1, ku1⟩ := bcell hb1)
    (go_wp2_with fail; refine (HP.out _).mono ?_; rintro e w2 ⟨rfl, hb2⟩; have ha2 := bjoin ha1 hb2 (by (repeat (first | with_reducible exact Below.refl _ _ | with_reducible assumption | with_reducible refine balloc ?_ _ | with_reducible refine bdrew ?_ | with_reducible refine below_drewN ?_ _ | with_reducible refine bset ?_ ?_ _ | with_reducible exact Nat.le_refl _ | with_reducible refine bsize ?_ | (dsimp only; refine Nat.le_trans ?_ (Nat.le_add_right _ _)) | with_reducible refine Nat.le_trans ?_ (Nat.le_add_right _ _) | (with_reducible refine bstep ?_ (by assumption))))); obtain ⟨kc2, kf2, kz2, ky2, kx2, kv2, ku2⟩ := bcell hb2; obtain ⟨jc2, jf2, jz2, jy2, jx2, jv2, ju2⟩ := bcell ha2)
    (go_wp2_with fail; refine (C.out _).mono ?_; rintro e w3 ⟨rfl, hb3⟩; have ha3 := bjoin ha2 hb3 (by (repeat (first | with_reducible exact Below.refl _ _ | with_reducible assumption | with_reducible refine balloc ?_ _ | with_reducible refine bdrew ?_ | with_reducible refine below_drewN ?_ _ | with_reducible refine bset ?_ ?_ _ | with_reducible exact Nat.le_refl _ | with_reducible refine bsize ?_ | (dsimp only; refine Nat.le_trans ?_ (Nat.le_add_right _ _)) | with_reducible refine Nat.le_trans ?_ (Nat.le_add_right _ _) | (with_reducible refine bstep ?_ (by assumption))))); obtain ⟨kc3, kf3, kz3, ky3, kx3, kv3, ku3⟩ := bcell hb3; obtain ⟨jc3, jf3, jz3, jy3, jx3, jv3, ju3⟩ := bcell ha3)
    go_wp2
    refine bodyPost_ret (v := .tuple #[.agg #[.int .i64 (twoN (kk) (X) (M)), .int .i64 (twoD (kk) (X) (M))], .bool (twoB (kk) (X) (M))]) (by simp only [results, Try.results57]; go_simp) rfl ⟨rfl, ?_⟩
    (repeat (first | with_reducible exact Below.refl _ _ | with_reducible assumption | with_reducible refine balloc ?_ _ | with_reducible refine bdrew ?_ | with_reducible refine below_drewN ?_ _ | with_reducible refine bset ?_ ?_ _ | with_reducible exact Nat.le_refl _ | with_reducible refine bsize ?_ | (dsimp only; refine Nat.le_trans ?_ (Nat.le_add_right _ _)) | with_reducible refine Nat.le_trans ?_ (Nat.le_add_right _ _) | (with_reducible refine bstep ?_ (by assumption))))
set_option maxHeartbeats 400000 in
theorem wayWith_pub (L E n d p q : Int) (bn : -9223372036854775808 ≤ n ∧ n ≤ 9223372036854775807) (bd : -9223372036854775808 ≤ d ∧ d ≤ 9223372036854775807) (bp : -9223372036854775808 ≤ p ∧ p ≤ 9223372036854775807) (bq : -9223372036854775808 ≤ q ∧ q ≤ 9223372036854775807) (w : World) :
    Calls Try.prog 51 #[.agg #[.int .i64 L, .int .i64 E], .agg #[.int .i64 n, .int .i64 d], .agg #[.int .i64 p, .int .i64 q]] w fun e w' => e = .returned (.tuple #[.agg #[.int .i64 (twoN (wayWithK L E n d p q) (wayWithX L E n d p q) (wayWithM L E n d p q)), .int .i64 (twoD (wayWithK L E n d p q) (wayWithX L E n d p q) (wayWithM L E n d p q))], .bool (twoB (wayWithK L E n d p q) (wayWithX L E n d p q) (wayWithM L E n d p q))]) ∧ Below w.heap.size w w' := by
  have C := Lib.hid (fun W => ask_wayWith L E n d p q bn bd bp bq W)
  generalize wayWithX L E n d p q = X at *
  generalize wayWithM L E n d p q = M at *
  generalize wayWithK L E n d p q = K at *
  go_enter Try.func51, Try.ntmps51
  (go_wp2_with fail; refine (C.out _).mono ?_; rintro e w1 ⟨rfl, hb1⟩; have ha1 := hb1; obtain ⟨kc1, kf1, kz1, ky1, kx1, kv1, ku1⟩ := bcell hb1)
  go_wp2
  refine bodyPost_ret (v := .tuple #[.agg #[.int .i64 (twoN (K) (X) (M)), .int .i64 (twoD (K) (X) (M))], .bool (twoB (K) (X) (M))]) (by simp only [results, Try.results51]; go_simp) rfl ⟨rfl, ?_⟩
  (repeat (first | with_reducible exact Below.refl _ _ | with_reducible assumption | with_reducible refine balloc ?_ _ | with_reducible refine bdrew ?_ | with_reducible refine below_drewN ?_ _ | with_reducible refine bset ?_ ?_ _ | with_reducible exact Nat.le_refl _ | with_reducible refine bsize ?_ | (dsimp only; refine Nat.le_trans ?_ (Nat.le_add_right _ _)) | with_reducible refine Nat.le_trans ?_ (Nat.le_add_right _ _) | (with_reducible refine bstep ?_ (by assumption))))

def oneTripK (L E n d p q : Int) : Bool := askB L E n d && plB p q
def oneTripX (L E n d p q : Int) : Int := min (3465 * (q * n)) (3465 * (L * (d * q))) - d * 3465 * p * E
def oneTripM (L E n d p q : Int) : Int := (d * q * 3465)
end Go.Proofs.Ytgpbkjakmbmccaa
