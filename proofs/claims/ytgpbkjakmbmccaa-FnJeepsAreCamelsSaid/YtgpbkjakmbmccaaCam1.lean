/- Camels: contracts of the program's measure and of what asks for camels, goods and places. -/
import Derived.Test.YtgpbkjakmbmccaaCamM
import Derived.Test.YtgpbkjakmbmccaaOps
import Derived.Deep.RegionHeld3
import Derived.Deep.RegionWith
namespace Go.Proofs.Ytgpbkjakmbmccaa
open Go.RowKit
set_option maxRecDepth 100000
set_option linter.unusedVariables false
set_option linter.unusedSimpArgs false

def camB (L E : Int) : Bool := inB L 1 12 && inB E 1 12
theorem camB_yes (L E : Int) (h : camB L E = true) : 1 ≤ L ∧ L ≤ 12 ∧ 1 ≤ E ∧ E ≤ 12 := by
  unfold camB inB at h; simp at h; omega
def askB (L E n d : Int) : Bool := camB L E && (amB n d && decide (d ≤ 12 ∧ n ≤ 6 * L * d))
def plB (n d : Int) : Bool := amB n d && decide (d ≤ 1000000)
set_option maxHeartbeats 400000 in
theorem isc_impl (L E : Int) (w : World) :
    Calls Try.prog 113 #[.agg #[.int .i64 L, .int .i64 E]] w fun e w' => e = .returned (.bool (camB L E)) ∧ Below w.heap.size w w' := by
  cases h1 : inB L 1 12 <;> cases h2 : inB E 1 12
  all_goals
    have e : camB L E = (inB L 1 12 && inB E 1 12) := rfl
    rw [e, h1, h2]; clear e
    go_enter Try.func113, Try.ntmps113
    go_wp2_with (go_at_call 49; refine (in_impl _ _ _ _).mono ?_; rintro e w1 ⟨rfl, rfl⟩; first | rw [h1] | rw [h2])
    go_ret
    refine ⟨rfl, ?_⟩
    (repeat (first | with_reducible exact Below.refl _ _ | with_reducible assumption | with_reducible refine balloc ?_ _ | with_reducible refine bdrew ?_ | with_reducible refine below_drewN ?_ _ | with_reducible refine bset ?_ ?_ _ | with_reducible exact Nat.le_refl _ | with_reducible refine bsize ?_ | (dsimp only; refine Nat.le_trans ?_ (Nat.le_add_right _ _)) | with_reducible refine Nat.le_trans ?_ (Nat.le_add_right _ _) | (with_reducible refine bstep ?_ (by assumption))))
set_option maxHeartbeats 800000 in
theorem ask_impl (L E n d : Int) (bn : -9223372036854775808 ≤ n ∧ n ≤ 9223372036854775807) (bd : -9223372036854775808 ≤ d ∧ d ≤ 9223372036854775807) (w : World) :
    Calls Try.prog 88 #[.agg #[.int .i64 L, .int .i64 E], .agg #[.int .i64 n, .int .i64 d]] w fun e w' => e = .returned (.bool (askB L E n d)) ∧ Below w.heap.size w w' := by
  cases h1 : camB L E
  · have e : askB L E n d = false := by simp [askB, h1]
    rw [e]; clear e
    go_enter Try.func88, Try.ntmps88
    (go_wp2_with fail; refine (isc_impl _ _ _).mono ?_; rintro e w1 ⟨rfl, hb1⟩; rw [h1]; have ha1 := hb1; obtain ⟨kc1, kf1, kz1, ky1, kx1, kv1, ku1⟩ := bcell hb1)
    go_wp2
    go_ret
    refine ⟨rfl, ?_⟩
    (repeat (first | with_reducible exact Below.refl _ _ | with_reducible assumption | with_reducible refine balloc ?_ _ | with_reducible refine bdrew ?_ | with_reducible refine below_drewN ?_ _ | with_reducible refine bset ?_ ?_ _ | with_reducible exact Nat.le_refl _ | with_reducible refine bsize ?_ | (dsimp only; refine Nat.le_trans ?_ (Nat.le_add_right _ _)) | with_reducible refine Nat.le_trans ?_ (Nat.le_add_right _ _) | (with_reducible refine bstep ?_ (by assumption))))
  · cases h2 : amB n d
    · have e : askB L E n d = false := by simp [askB, h2]
      rw [e]; clear e
      go_enter Try.func88, Try.ntmps88
      (go_wp2_with fail; refine (isc_impl _ _ _).mono ?_; rintro e w1 ⟨rfl, hb1⟩; rw [h1]; have ha1 := hb1; obtain ⟨kc1, kf1, kz1, ky1, kx1, kv1, ku1⟩ := bcell hb1)
      (go_wp2_with fail; refine (isam_impl _ _ (by omega) (by omega) _).mono ?_; rintro e w2 ⟨rfl, hb2⟩; rw [h2]; have ha2 := bjoin ha1 hb2 (by (repeat (first | with_reducible exact Below.refl _ _ | with_reducible assumption | with_reducible refine balloc ?_ _ | with_reducible refine bdrew ?_ | with_reducible refine below_drewN ?_ _ | with_reducible refine bset ?_ ?_ _ | with_reducible exact Nat.le_refl _ | with_reducible refine bsize ?_ | (dsimp only; refine Nat.le_trans ?_ (Nat.le_add_right _ _)) | with_reducible refine Nat.le_trans ?_ (Nat.le_add_right _ _) | (with_reducible refine bstep ?_ (by assumption))))); obtain ⟨kc2, kf2, kz2, ky2, kx2, kv2, ku2⟩ := bcell hb2; obtain ⟨jc2, jf2, jz2, jy2, jx2, jv2, ju2⟩ := bcell ha2)
      go_wp2
      go_ret
      refine ⟨rfl, ?_⟩
      (repeat (first | with_reducible exact Below.refl _ _ | with_reducible assumption | with_reducible refine balloc ?_ _ | with_reducible refine bdrew ?_ | with_reducible refine below_drewN ?_ _ | with_reducible refine bset ?_ ?_ _ | with_reducible exact Nat.le_refl _ | with_reducible refine bsize ?_ | (dsimp only; refine Nat.le_trans ?_ (Nat.le_add_right _ _)) | with_reducible refine Nat.le_trans ?_ (Nat.le_add_right _ _) | (with_reducible refine bstep ?_ (by assumption))))
    · obtain ⟨c1, c2, c3, c4⟩ := camB_yes L E h1
      obtain ⟨a1, a2, a3, a4⟩ := am_of n d h2
      by_cases h3 : d ≤ 12
      · have m := mul_bd L d (by omega) (by omega) (by omega) (by omega)
        have e : askB L E n d = decide (n ≤ 6 * L * d) := by simp [askB, h1, h2, h3]
        have e6 : 6 * L * d = 6 * (L * d) := Int.mul_assoc _ _ _
        have m2 : 0 ≤ 6 * L * d ∧ 6 * L * d ≤ 1000 := by
          have := Int.mul_le_mul c2 h3 (by omega) (by omega)
          omega
        rw [e]; clear e e6
        by_cases h4 : n ≤ 6 * L * d
        all_goals
          go_enter Try.func88, Try.ntmps88
          (go_wp2_with fail; refine (isc_impl _ _ _).mono ?_; rintro e w1 ⟨rfl, hb1⟩; rw [h1]; have ha1 := hb1; obtain ⟨kc1, kf1, kz1, ky1, kx1, kv1, ku1⟩ := bcell hb1)
          (go_wp2_with fail; refine (isam_impl _ _ (by omega) (by omega) _).mono ?_; rintro e w2 ⟨rfl, hb2⟩; rw [h2]; have ha2 := bjoin ha1 hb2 (by (repeat (first | with_reducible exact Below.refl _ _ | with_reducible assumption | with_reducible refine balloc ?_ _ | with_reducible refine bdrew ?_ | with_reducible refine below_drewN ?_ _ | with_reducible refine bset ?_ ?_ _ | with_reducible exact Nat.le_refl _ | with_reducible refine bsize ?_ | (dsimp only; refine Nat.le_trans ?_ (Nat.le_add_right _ _)) | with_reducible refine Nat.le_trans ?_ (Nat.le_add_right _ _) | (with_reducible refine bstep ?_ (by assumption))))); obtain ⟨kc2, kf2, kz2, ky2, kx2, kv2, ku2⟩ := bcell hb2; obtain ⟨jc2, jf2, jz2, jy2, jx2, jv2, ju2⟩ := bcell ha2)
          go_wp2
          go_ret
          refine ⟨by simp [h4], ?_⟩
          (repeat (first | with_reducible exact Below.refl _ _ | with_reducible assumption | with_reducible refine balloc ?_ _ | with_reducible refine bdrew ?_ | with_reducible refine below_drewN ?_ _ | with_reducible refine bset ?_ ?_ _ | with_reducible exact Nat.le_refl _ | with_reducible refine bsize ?_ | (dsimp only; refine Nat.le_trans ?_ (Nat.le_add_right _ _)) | with_reducible refine Nat.le_trans ?_ (Nat.le_add_right _ _) | (with_reducible refine bstep ?_ (by assumption))))
      · have e : askB L E n d = false := by simp [askB, h3]
        rw [e]; clear e
        go_enter Try.func88, Try.ntmps88
        (go_wp2_with fail; refine (isc_impl _ _ _).mono ?_; rintro e w1 ⟨rfl, hb1⟩; rw [h1]; have ha1 := hb1; obtain ⟨kc1, kf1, kz1, ky1, kx1, kv1, ku1⟩ := bcell hb1)
        (go_wp2_with fail; refine (isam_impl _ _ (by omega) (by omega) _).mono ?_; rintro e w2 ⟨rfl, hb2⟩; rw [h2]; have ha2 := bjoin ha1 hb2 (by (repeat (first | with_reducible exact Below.refl _ _ | with_reducible assumption | with_reducible refine balloc ?_ _ | with_reducible refine bdrew ?_ | with_reducible refine below_drewN ?_ _ | with_reducible refine bset ?_ ?_ _ | with_reducible exact Nat.le_refl _ | with_reducible refine bsize ?_ | (dsimp only; refine Nat.le_trans ?_ (Nat.le_add_right _ _)) | with_reducible refine Nat.le_trans ?_ (Nat.le_add_right _ _) | (with_reducible refine bstep ?_ (by assumption))))); obtain ⟨kc2, kf2, kz2, ky2, kx2, kv2, ku2⟩ := bcell hb2; obtain ⟨jc2, jf2, jz2, jy2, jx2, jv2, ju2⟩ := bcell ha2)
        go_wp2
        go_ret
        refine ⟨rfl, ?_⟩
        (repeat (first | with_reducible exact Below.refl _ _ | with_reducible assumption | with_reducible refine balloc ?_ _ | with_reducible refine bdrew ?_ | with_reducible refine below_drewN ?_ _ | with_reducible refine bset ?_ ?_ _ | with_reducible exact Nat.le_refl _ | with_reducible refine bsize ?_ | (dsimp only; refine Nat.le_trans ?_ (Nat.le_add_right _ _)) | with_reducible refine Nat.le_trans ?_ (Nat.le_add_right _ _) | (with_reducible refine bstep ?_ (by assumption))))
set_option maxHeartbeats 400000 in
theorem place_impl (n d : Int) (bn : -9223372036854775808 ≤ n ∧ n ≤ 9223372036854775807) (bd : -9223372036854775808 ≤ d ∧ d ≤ 9223372036854775807) (w : World) :
    Calls Try.prog 95 #[.agg #[.int .i64 n, .int .i64 d]] w fun e w' => e = .returned (.bool (plB n d)) ∧ Below w.heap.size w w' := by
  cases h1 : amB n d
  · have e : plB n d = false := by simp [plB, h1]
    rw [e]; clear e
    go_enter Try.func95, Try.ntmps95
    (go_wp2_with fail; refine (isam_impl _ _ (by omega) (by omega) _).mono ?_; rintro e w1 ⟨rfl, hb1⟩; rw [h1]; have ha1 := hb1; obtain ⟨kc1, kf1, kz1, ky1, kx1, kv1, ku1⟩ := bcell hb1)
    go_wp2
    go_ret
    refine ⟨rfl, ?_⟩
    (repeat (first | with_reducible exact Below.refl _ _ | with_reducible assumption | with_reducible refine balloc ?_ _ | with_reducible refine bdrew ?_ | with_reducible refine below_drewN ?_ _ | with_reducible refine bset ?_ ?_ _ | with_reducible exact Nat.le_refl _ | with_reducible refine bsize ?_ | (dsimp only; refine Nat.le_trans ?_ (Nat.le_add_right _ _)) | with_reducible refine Nat.le_trans ?_ (Nat.le_add_right _ _) | (with_reducible refine bstep ?_ (by assumption))))
  · have e : plB n d = decide (d ≤ 1000000) := by simp [plB, h1]
    rw [e]; clear e
    by_cases h2 : d ≤ 1000000
    all_goals
      go_enter Try.func95, Try.ntmps95
      (go_wp2_with fail; refine (isam_impl _ _ (by omega) (by omega) _).mono ?_; rintro e w1 ⟨rfl, hb1⟩; rw [h1]; have ha1 := hb1; obtain ⟨kc1, kf1, kz1, ky1, kx1, kv1, ku1⟩ := bcell hb1)
      go_wp2
      go_ret
      refine ⟨by simp [h2], ?_⟩
      (repeat (first | with_reducible exact Below.refl _ _ | with_reducible assumption | with_reducible refine balloc ?_ _ | with_reducible refine bdrew ?_ | with_reducible refine below_drewN ?_ _ | with_reducible refine bset ?_ ?_ _ | with_reducible exact Nat.le_refl _ | with_reducible refine bsize ?_ | (dsimp only; refine Nat.le_trans ?_ (Nat.le_add_right _ _)) | with_reducible refine Nat.le_trans ?_ (Nat.le_add_right _ _) | (with_reducible refine bstep ?_ (by assumption))))
set_option maxHeartbeats 400000 in
theorem mes_impl (L E n d p q : Int) (h1 : 0 ≤ d) (h2 : d ≤ 12) (h3 : 0 ≤ q) (h4 : q ≤ 1000000) (w : World) :
    Calls Try.prog 89 #[.agg #[.int .i64 L, .int .i64 E], .agg #[.int .i64 n, .int .i64 d], .agg #[.int .i64 p, .int .i64 q]] w fun e w' => e = .returned (.agg #[.int .i64 L, .int .i64 E, .int .i64 (d * q * 3465)]) ∧ Below w.heap.size w w' := by
  have m : 0 ≤ d * q ∧ d * q ≤ 12000000 := ⟨Int.mul_nonneg h1 h3, by have := Int.mul_le_mul h2 h4 h3 (by omega); omega⟩
  go_enter Try.func89, Try.ntmps89
  go_wp2
  refine bodyPost_ret (v := .agg #[.int .i64 L, .int .i64 E, .int .i64 (d * q * 3465)]) (by simp only [results, Try.results89]; go_simp) rfl ⟨rfl, ?_⟩
  (repeat (first | with_reducible exact Below.refl _ _ | with_reducible assumption | with_reducible refine balloc ?_ _ | with_reducible refine bdrew ?_ | with_reducible refine below_drewN ?_ _ | with_reducible refine bset ?_ ?_ _ | with_reducible exact Nat.le_refl _ | with_reducible refine bsize ?_ | (dsimp only; refine Nat.le_trans ?_ (Nat.le_add_right _ _)) | with_reducible refine Nat.le_trans ?_ (Nat.le_add_right _ _) | (with_reducible refine bstep ?_ (by assumption))))
set_option maxHeartbeats 400000 in
theorem load_impl (L E M l : Int) (hl : L * M = l) (h1 : 0 ≤ l) (h2 : l ≤ 9000000000000000000) (w : World) :
    Calls Try.prog 114 #[.agg #[.int .i64 L, .int .i64 E, .int .i64 M]] w fun e w' => e = .returned (.int .i64 l) ∧ Below w.heap.size w w' := by
  subst hl
  go_enter Try.func114, Try.ntmps114
  go_wp2
  go_ret
  refine ⟨rfl, ?_⟩
  (repeat (first | with_reducible exact Below.refl _ _ | with_reducible assumption | with_reducible refine balloc ?_ _ | with_reducible refine bdrew ?_ | with_reducible refine below_drewN ?_ _ | with_reducible refine bset ?_ ?_ _ | with_reducible exact Nat.le_refl _ | with_reducible refine bsize ?_ | (dsimp only; refine Nat.le_trans ?_ (Nat.le_add_right _ _)) | with_reducible refine Nat.le_trans ?_ (Nat.le_add_right _ _) | (with_reducible refine bstep ?_ (by assumption))))
set_option maxHeartbeats 400000 in
theorem crumbs_impl (L E M n d q : Int) (hM : M = d * q) (hd : 1 ≤ d) (hq : 0 ≤ q) (hM2 : M ≤ 9000000000000000000) (h0 : 0 ≤ q * n) (h2 : q * n ≤ 9000000000000000000) (w : World) :
    Calls Try.prog 91 #[.agg #[.int .i64 L, .int .i64 E, .int .i64 M], .agg #[.int .i64 n, .int .i64 d]] w fun e w' => e = .returned (.int .i64 (q * n)) ∧ Below w.heap.size w w' := by
  have hqM : Int.tdiv M d = q := by rw [hM]; exact Int.mul_tdiv_cancel_left q (by omega)
  have hq2 : q ≤ M := by rw [hM]; exact le_scaled d q hd hq
  have hd0 : ¬ d = 0 := by omega
  clear hM
  go_enter Try.func91, Try.ntmps91
  go_wp2
  go_region
  all_goals go_wp2
  all_goals go_ret
  all_goals refine ⟨rfl, ?_⟩
  all_goals (repeat (first | with_reducible exact Below.refl _ _ | with_reducible assumption | with_reducible refine balloc ?_ _ | with_reducible refine bdrew ?_ | with_reducible refine below_drewN ?_ _ | with_reducible refine bset ?_ ?_ _ | with_reducible exact Nat.le_refl _ | with_reducible refine bsize ?_ | (dsimp only; refine Nat.le_trans ?_ (Nat.le_add_right _ _)) | with_reducible refine Nat.le_trans ?_ (Nat.le_add_right _ _) | (with_reducible refine bstep ?_ (by assumption))))
set_option maxHeartbeats 400000 in
theorem paces_impl (L E M n d q : Int) (hM : M = d * q) (hd : 1 ≤ d) (hq : 0 ≤ q) (hM2 : M ≤ 9000000000000000000) (h0 : 0 ≤ q * n) (h2 : q * n ≤ 9000000000000000000) (h3 : 0 ≤ q * n * E) (h4 : q * n * E ≤ 9000000000000000000) (w : World) :
    Calls Try.prog 98 #[.agg #[.int .i64 L, .int .i64 E, .int .i64 M], .agg #[.int .i64 n, .int .i64 d]] w fun e w' => e = .returned (.int .i64 (q * n * E)) ∧ Below w.heap.size w w' := by
  have hqM : Int.tdiv M d = q := by rw [hM]; exact Int.mul_tdiv_cancel_left q (by omega)
  have hq2 : q ≤ M := by rw [hM]; exact le_scaled d q hd hq
  have hd0 : ¬ d = 0 := by omega
  clear hM
  go_enter Try.func98, Try.ntmps98
  go_wp2
  go_region
  all_goals go_wp2
  all_goals go_ret
  all_goals refine ⟨rfl, ?_⟩
  all_goals (repeat (first | with_reducible exact Below.refl _ _ | with_reducible assumption | with_reducible refine balloc ?_ _ | with_reducible refine bdrew ?_ | with_reducible refine below_drewN ?_ _ | with_reducible refine bset ?_ ?_ _ | with_reducible exact Nat.le_refl _ | with_reducible refine bsize ?_ | (dsimp only; refine Nat.le_trans ?_ (Nat.le_add_right _ _)) | with_reducible refine Nat.le_trans ?_ (Nat.le_add_right _ _) | (with_reducible refine bstep ?_ (by assumption))))
set_option maxHeartbeats 400000 in
theorem goods_impl (L E M x : Int) (h1 : x ≤ 9000000000000000000) (h2 : M ≤ 9000000000000000000) (w : World) :
    Calls Try.prog 99 #[.agg #[.int .i64 L, .int .i64 E, .int .i64 M], .int .i64 x] w fun e w' => e = .returned (.tuple #[.agg #[.int .i64 (lowN x M), .int .i64 (lowD x M)], .bool (lowB x M)]) ∧ Below w.heap.size w w' := by
  go_enter Try.func99, Try.ntmps99
  (go_wp2_with fail; refine (low_impl _ _ (by omega) (by omega) _).mono ?_; rintro e w1 ⟨rfl, hb1⟩; have ha1 := hb1; obtain ⟨kc1, kf1, kz1, ky1, kx1, kv1, ku1⟩ := bcell hb1)
  go_wp2
  refine bodyPost_ret (v := .tuple #[.agg #[.int .i64 (lowN x M), .int .i64 (lowD x M)], .bool (lowB x M)]) (by simp only [results, Try.results99]; go_simp) rfl ⟨rfl, ?_⟩
  (repeat (first | with_reducible exact Below.refl _ _ | with_reducible assumption | with_reducible refine balloc ?_ _ | with_reducible refine bdrew ?_ | with_reducible refine below_drewN ?_ _ | with_reducible refine bset ?_ ?_ _ | with_reducible exact Nat.le_refl _ | with_reducible refine bsize ?_ | (dsimp only; refine Nat.le_trans ?_ (Nat.le_add_right _ _)) | with_reducible refine Nat.le_trans ?_ (Nat.le_add_right _ _) | (with_reducible refine bstep ?_ (by assumption))))
set_option maxHeartbeats 400000 in
theorem way_impl (L E M x m : Int) (hm : M * E = m) (h1 : x ≤ 9000000000000000000) (h2 : 0 ≤ m) (h3 : m ≤ 9000000000000000000) (w : World) :
    Calls Try.prog 110 #[.agg #[.int .i64 L, .int .i64 E, .int .i64 M], .int .i64 x] w fun e w' => e = .returned (.tuple #[.agg #[.int .i64 (lowN x m), .int .i64 (lowD x m)], .bool (lowB x m)]) ∧ Below w.heap.size w w' := by
  subst hm
  go_enter Try.func110, Try.ntmps110
  (go_wp2_with fail; refine (low_impl _ _ (by omega) (by omega) _).mono ?_; rintro e w1 ⟨rfl, hb1⟩; have ha1 := hb1; obtain ⟨kc1, kf1, kz1, ky1, kx1, kv1, ku1⟩ := bcell hb1)
  go_wp2
  refine bodyPost_ret (v := .tuple #[.agg #[.int .i64 (lowN x (M * E)), .int .i64 (lowD x (M * E))], .bool (lowB x (M * E))]) (by simp only [results, Try.results110]; go_simp) rfl ⟨rfl, ?_⟩
  (repeat (first | with_reducible exact Below.refl _ _ | with_reducible assumption | with_reducible refine balloc ?_ _ | with_reducible refine bdrew ?_ | with_reducible refine below_drewN ?_ _ | with_reducible refine bset ?_ ?_ _ | with_reducible exact Nat.le_refl _ | with_reducible refine bsize ?_ | (dsimp only; refine Nat.le_trans ?_ (Nat.le_add_right _ _)) | with_reducible refine Nat.le_trans ?_ (Nat.le_add_right _ _) | (with_reducible refine bstep ?_ (by assumption))))
theorem drv1_impl (k : Int) (h0 : 0 ≤ k) (hk : k ≤ 20) (w : World) :
    Calls Try.prog 112 #[.int .i64 1, .int .i64 k] w fun e w' => e = .returned (.int .i64 (2 * k + 1)) ∧ w = w' := by
  go_enter Try.func112, Try.ntmps112
  go_wp2
  go_ret
  exact ⟨rfl, rfl⟩
set_option maxHeartbeats 800000 in
theorem trips_impl (L E M l x : Int) (hl : L * M = l) (h1 : 1 ≤ l) (h2 : l ≤ 1000000000000000000) (h3 : x ≤ 6 * l) (h4 : -4000000000000000000 ≤ x) (w : World) :
    Calls Try.prog 90 #[.agg #[.int .i64 L, .int .i64 E, .int .i64 M], .int .i64 x] w fun e w' => e = .returned (.int .i64 (trp l x)) ∧ Below w.heap.size w w' := by
  have hc := trp_ceil l x h1 h3
  have HL := Lib.hid (fun W => load_impl L E M l hl (by omega) (by omega) W)
  clear hl
  have hb := trp_bd l x
  have hzb := tdiv_bd (x + l - 1) l 8000000000000000000 h1 (by omega) (by omega) (by omega)
  generalize (trp l x : Int) = t at *
  generalize hz : Int.tdiv (x + l - 1) l = z at *
  have hl0 : ¬ l = 0 := by omega
  go_enter Try.func90, Try.ntmps90
  go_wp2
  go_region_held3 (fun w' => w'.cell? ⟨w.heap.size, 0, none⟩ = some (.int .i64 L) ∧ w'.cell? ⟨w.heap.size, 1, none⟩ = some (.int .i64 E) ∧ w'.cell? ⟨w.heap.size, 2, none⟩ = some (.int .i64 M) ∧ w.heap.size < w'.heap.size) (((go_split_ands; (repeat' apply And.intro) <;> first | assumption | (simp [go_sem]; done) | go_keep))) (first | (go_at_call 114; refine (HL.out _).mono ?_; rintro e w1 ⟨rfl, hb⟩; go_split_ands; (have f1 := keepa hb (by assumption) (by assumption : World.cell? _ ⟨w.heap.size, 0, none⟩ = _)); (have f2 := keepa hb (by assumption) (by assumption : World.cell? _ ⟨w.heap.size, 1, none⟩ = _)); (have f3 := keepa hb (by assumption) (by assumption : World.cell? _ ⟨w.heap.size, 2, none⟩ = _)); (have f4 := Nat.lt_of_lt_of_le (by assumption) hb.size)))
  all_goals go_wp2
  all_goals go_ret
  all_goals have wq1 : IntKind.i64.wrap (x + l) = x + l := IntWalk.i64_in _ (by omega)
  all_goals have wq2 : IntKind.i64.wrap (x + l - 1) = x + l - 1 := IntWalk.i64_in _ (by omega)
  all_goals have wq3 : IntKind.i64.wrap z = z := IntWalk.i64_in _ (by omega)
  all_goals refine ⟨ret_int (by (try rw [wq1, wq2, hz, wq3] at h); (try rw [wq1, wq2, hz, wq3]); omega), ?_⟩
  all_goals (repeat (first | with_reducible exact Below.refl _ _ | with_reducible assumption | with_reducible refine balloc ?_ _ | with_reducible refine bdrew ?_ | with_reducible refine below_drewN ?_ _ | with_reducible refine bset ?_ ?_ _ | with_reducible exact Nat.le_refl _ | with_reducible refine bsize ?_ | (dsimp only; refine Nat.le_trans ?_ (Nat.le_add_right _ _)) | with_reducible refine Nat.le_trans ?_ (Nat.le_add_right _ _) | (with_reducible refine bstep ?_ (by assumption))))
end Go.Proofs.Ytgpbkjakmbmccaa
