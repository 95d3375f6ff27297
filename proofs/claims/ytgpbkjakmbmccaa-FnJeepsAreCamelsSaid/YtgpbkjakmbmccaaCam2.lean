/- Camels: contracts of exchange, lastsFor, eatenOn, of the program. -/
import Derived.Test.YtgpbkjakmbmccaaCam1
namespace Go.Proofs.Ytgpbkjakmbmccaa
open Go.RowKit
set_option maxRecDepth 100000
set_option linter.unusedVariables false
set_option linter.unusedSimpArgs false

set_option maxHeartbeats 1600000 in
theorem exch_lc (mo : Nat → Int) (wo : Nat → Int → Int) (a : Int) (g : Nat) (w : World)
    (hA : ∀ k : Nat, k ≤ 6 → -4000000000000000000 ≤ xR mo a k ∧ xR mo a k ≤ 4000000000000000000) (hM : ∀ k : Nat, k < 6 → -4000000000000000000 ≤ mo k ∧ mo k ≤ 4000000000000000000)
    (hS : ∀ k : Nat, k ≤ 6 → -4000000000000000000 ≤ xS mo wo a k ∧ xS mo wo a k ≤ 4000000000000000000) 
    (h1 : ∀ k : Nat, k < 6 → ∀ W : World, Below w.heap.size w W → Calls Try.prog 117 #[.int .i64 (2 * (k : Int) + 1), .pointer (some ⟨g, 0, none⟩)] W fun e w' => e = .returned (.int .i64 (mo k)) ∧ W = w')
    (h2 : ∀ k : Nat, k < 6 → ∀ W : World, Calls Try.prog 118 #[.int .i64 (min (xR mo a k) (mo k)), .int .i64 (2 * (k : Int) + 1)] W fun e w' => e = .returned (.int .i64 (wo k (min (xR mo a k) (mo k)))) ∧ W = w') :
    Calls Try.prog 116 #[.int .i64 a, .func (.func 117) #[] #[.pointer (some ⟨g, 0, none⟩)], .func (.func 118) #[] #[]] w fun e w' => e = .returned (.tuple #[.int .i64 (xS mo wo a 6), .bool (decide (xR mo a 6 = 0))]) ∧ Below w.heap.size w w' := by
  have HA := Lib.hid hA
  have HM := Lib.hid hM
  have HS := Lib.hid hS
  have H1 := Lib.hid h1
  have H2 := Lib.hid h2
  clear hA hM hS h1 h2
  go_enter Try.func116, Try.ntmps116
  go_wp2
  go_loopw [0, 8, 12] (fun x s i wr => ∃ k : Nat, k ≤ 6 ∧ i = .int .i64 k ∧ x = .int .i64 (xR mo a k) ∧ s = .int .i64 (xS mo wo a k) ∧ Below w.heap.size w wr) (fun _ _ i _ => 6 - (intOf i).toNat)
  case atStart => exact ⟨0, by omega, rfl, rfl, rfl, by (repeat (first | with_reducible exact Below.refl _ _ | with_reducible assumption | with_reducible refine balloc ?_ _ | with_reducible refine bdrew ?_ | with_reducible refine below_drewN ?_ _ | with_reducible refine bset ?_ ?_ _ | with_reducible exact Nat.le_refl _ | with_reducible refine bsize ?_ | (dsimp only; refine Nat.le_trans ?_ (Nat.le_add_right _ _)) | with_reducible refine Nat.le_trans ?_ (Nat.le_add_right _ _) | (with_reducible refine bstep ?_ (by assumption))))⟩
  case round =>
    obtain ⟨k, hk, rfl, rfl, rfl, hbl⟩ := hrel
    by_cases hlt : k < 6
    · have a1 := HA.out k hk
      have a2 := HM.out k hlt
      have a3 := HS.out k hk
      have a4 := HS.out (k + 1) (by omega)
      have a5 := HA.out (k + 1) (by omega)
      have e4 : xS mo wo a (k + 1) = xS mo wo a k + wo k (min (xR mo a k) (mo k)) := rfl
      have e5 : xR mo a (k + 1) = xR mo a k - min (xR mo a k) (mo k) := rfl
      have C1 := Lib.hid (H1.out k hlt)
      have C2 := Lib.hid (H2.out k hlt)
      have HE4 := Lib.hid e4
      have HE5 := Lib.hid e5
      rw [e4] at a4
      rw [e5] at a5
      clear e4 e5 HA HM HS H1 H2
      have hmin : ∃ m, min (xR mo a k) (mo k) = m := ⟨_, rfl⟩
      obtain ⟨m, hm⟩ := hmin
      rw [hm] at C2 HE4 HE5 a4 a5
      generalize xR mo a k = X at *
      generalize xS mo wo a k = Y at *
      generalize mo k = Z at *
      generalize wo k m = V at *
      have HMN := Lib.hid hm
      clear hm
      go_wp2_with fail
      refine (drv1_impl (k : Int) (by omega) (by omega) _).mono ?_
      rintro e w2 ⟨rfl, rfl⟩
      go_wp2_with fail
      refine (C1.out _ hbl).mono ?_
      rintro e w2 ⟨rfl, rfl⟩
      by_cases hzx : Z < X
      all_goals
        have hmm : m = (if Z < X then Z else X) := by rw [← HMN.out]; split <;> omega
        first | rw [if_pos hzx] at hmm | rw [if_neg hzx] at hmm
        subst hmm
        go_wp2_with fail
        refine (C2.out _).mono ?_
        rintro e w2 ⟨rfl, rfl⟩
        go_wp2
        go_roundw
        case rel => exact ⟨k + 1, by omega, by go_num, by rw [HE5.out]; try simp, by rw [HE4.out]; try simp, hbl⟩
        case measure => simp [intOf]; omega
    · obtain rfl : k = 6 := by omega
      go_wp2
      go_ret2
      exact ⟨by congr 1, hbl⟩
set_option maxHeartbeats 1600000 in
theorem exch_le (mo : Nat → Int) (wo : Nat → Int → Int) (a : Int) (g : Nat) (w : World)
    (hA : ∀ k : Nat, k ≤ 6 → -4000000000000000000 ≤ xR mo a k ∧ xR mo a k ≤ 4000000000000000000) (hM : ∀ k : Nat, k < 6 → -4000000000000000000 ≤ mo k ∧ mo k ≤ 4000000000000000000)
    (hS : ∀ k : Nat, k ≤ 6 → -4000000000000000000 ≤ xS mo wo a k ∧ xS mo wo a k ≤ 4000000000000000000) 
    (h1 : ∀ k : Nat, k < 6 → ∀ W : World, Below w.heap.size w W → Calls Try.prog 120 #[.int .i64 (2 * (k : Int) + 1), .pointer (some ⟨g, 0, none⟩)] W fun e w' => e = .returned (.int .i64 (mo k)) ∧ W = w')
    (h2 : ∀ k : Nat, k < 6 → ∀ W : World, Calls Try.prog 121 #[.int .i64 (min (xR mo a k) (mo k)), .int .i64 (2 * (k : Int) + 1)] W fun e w' => e = .returned (.int .i64 (wo k (min (xR mo a k) (mo k)))) ∧ W = w') :
    Calls Try.prog 119 #[.int .i64 a, .func (.func 120) #[] #[.pointer (some ⟨g, 0, none⟩)], .func (.func 121) #[] #[]] w fun e w' => e = .returned (.tuple #[.int .i64 (xS mo wo a 6), .bool (decide (xR mo a 6 = 0))]) ∧ Below w.heap.size w w' := by
  have HA := Lib.hid hA
  have HM := Lib.hid hM
  have HS := Lib.hid hS
  have H1 := Lib.hid h1
  have H2 := Lib.hid h2
  clear hA hM hS h1 h2
  go_enter Try.func119, Try.ntmps119
  go_wp2
  go_loopw [0, 8, 12] (fun x s i wr => ∃ k : Nat, k ≤ 6 ∧ i = .int .i64 k ∧ x = .int .i64 (xR mo a k) ∧ s = .int .i64 (xS mo wo a k) ∧ Below w.heap.size w wr) (fun _ _ i _ => 6 - (intOf i).toNat)
  case atStart => exact ⟨0, by omega, rfl, rfl, rfl, by (repeat (first | with_reducible exact Below.refl _ _ | with_reducible assumption | with_reducible refine balloc ?_ _ | with_reducible refine bdrew ?_ | with_reducible refine below_drewN ?_ _ | with_reducible refine bset ?_ ?_ _ | with_reducible exact Nat.le_refl _ | with_reducible refine bsize ?_ | (dsimp only; refine Nat.le_trans ?_ (Nat.le_add_right _ _)) | with_reducible refine Nat.le_trans ?_ (Nat.le_add_right _ _) | (with_reducible refine bstep ?_ (by assumption))))⟩
  case round =>
    obtain ⟨k, hk, rfl, rfl, rfl, hbl⟩ := hrel
    by_cases hlt : k < 6
    · have a1 := HA.out k hk
      have a2 := HM.out k hlt
      have a3 := HS.out k hk
      have a4 := HS.out (k + 1) (by omega)
      have a5 := HA.out (k + 1) (by omega)
      have e4 : xS mo wo a (k + 1) = xS mo wo a k + wo k (min (xR mo a k) (mo k)) := rfl
      have e5 : xR mo a (k + 1) = xR mo a k - min (xR mo a k) (mo k) := rfl
      have C1 := Lib.hid (H1.out k hlt)
      have C2 := Lib.hid (H2.out k hlt)
      have HE4 := Lib.hid e4
      have HE5 := Lib.hid e5
      rw [e4] at a4
      rw [e5] at a5
      clear e4 e5 HA HM HS H1 H2
      have hmin : ∃ m, min (xR mo a k) (mo k) = m := ⟨_, rfl⟩
      obtain ⟨m, hm⟩ := hmin
      rw [hm] at C2 HE4 HE5 a4 a5
      generalize xR mo a k = X at *
      generalize xS mo wo a k = Y at *
      generalize mo k = Z at *
      generalize wo k m = V at *
      have HMN := Lib.hid hm
      clear hm
      go_wp2_with fail
      refine (drv1_impl (k : Int) (by omega) (by omega) _).mono ?_
      rintro e w2 ⟨rfl, rfl⟩
      go_wp2_with fail
      refine (C1.out _ hbl).mono ?_
      rintro e w2 ⟨rfl, rfl⟩
      by_cases hzx : Z < X
      all_goals
        have hmm : m = (if Z < X then Z else X) := by rw [← HMN.out]; split <;> omega
        first | rw [if_pos hzx] at hmm | rw [if_neg hzx] at hmm
        subst hmm
        go_wp2_with fail
        refine (C2.out _).mono ?_
        rintro e w2 ⟨rfl, rfl⟩
        go_wp2
        go_roundw
        case rel => exact ⟨k + 1, by omega, by go_num, by rw [HE5.out]; try simp, by rw [HE4.out]; try simp, hbl⟩
        case measure => simp [intOf]; omega
    · obtain rfl : k = 6 := by omega
      go_wp2
      go_ret2
      exact ⟨by congr 1, hbl⟩
theorem clo1_lc (g : Nat) (L d : Int) (w : World) (hc : w.cell? ⟨g, 0, none⟩ = some (.int .i64 L)) :
    Calls Try.prog 117 #[.int .i64 d, .pointer (some ⟨g, 0, none⟩)] w fun e w' => e = .returned (.int .i64 L) ∧ w = w' := by
  go_enter Try.func117, Try.ntmps117
  go_wp2
  go_ret
  exact ⟨rfl, rfl⟩
theorem clo1_le (g : Nat) (L d q : Int) (w : World) (hc : w.cell? ⟨g, 0, none⟩ = some (.int .i64 L)) (hd : 1 ≤ d) (hL : L = d * q) (h0 : 0 ≤ q) (hB : L ≤ 4000000000000000000) :
    Calls Try.prog 120 #[.int .i64 d, .pointer (some ⟨g, 0, none⟩)] w fun e w' => e = .returned (.int .i64 q) ∧ w = w' := by
  have hqM : Int.tdiv L d = q := by rw [hL]; exact Int.mul_tdiv_cancel_left q (by omega)
  have hq2 : q ≤ L := by rw [hL]; exact le_scaled d q hd h0
  have hd0 : ¬ d = 0 := by omega
  clear hL
  go_enter Try.func120, Try.ntmps120
  go_wp2
  go_ret
  exact ⟨rfl, rfl⟩
theorem clo2_lc (p d q : Int) (w : World) (h0 : 0 ≤ p) (hd : 1 ≤ d) (hq : p / d = q) (hB : p ≤ 4000000000000000000) :
    Calls Try.prog 118 #[.int .i64 p, .int .i64 d] w fun e w' => e = .returned (.int .i64 q) ∧ w = w' := by
  have hqM : Int.tdiv p d = q := by rw [Int.tdiv_eq_ediv_of_nonneg h0]; exact hq
  have hq2 : 0 ≤ q ∧ q ≤ p := by rw [← hq]; exact ⟨Int.ediv_nonneg h0 (by omega), Int.ediv_le_self d h0⟩
  have hd0 : ¬ d = 0 := by omega
  clear hq
  go_enter Try.func118, Try.ntmps118
  go_wp2
  go_ret
  exact ⟨rfl, rfl⟩
theorem clo2_le (p d : Int) (w : World) (h1 : -4000000000000000000 ≤ p * d) (h2 : p * d ≤ 4000000000000000000) :
    Calls Try.prog 121 #[.int .i64 p, .int .i64 d] w fun e w' => e = .returned (.int .i64 (p * d)) ∧ w = w' := by
  go_enter Try.func121, Try.ntmps121
  go_wp2
  go_ret
  exact ⟨rfl, rfl⟩

/-! numbers of the rounds -/
theorem las_bd (l u : Int) (hl : 1 ≤ l) (hl2 : l ≤ 1000000000000) (hu : 0 ≤ u) (hu2 : u ≤ 100000000000000) : ∀ k : Nat, k ≤ 6 →
    (0 ≤ xR (fun _ => 3465 * l) (3465 * u) k ∧ xR (fun _ => 3465 * l) (3465 * u) k ≤ 3465 * u) ∧ (0 ≤ xS (fun _ => 3465 * l) (fun k p => p / (2 * (k : Int) + 1)) (3465 * u) k ∧ xS (fun _ => 3465 * l) (fun k p => p / (2 * (k : Int) + 1)) (3465 * u) k ≤ k * (3465 * l))
  | 0, _ => by simp [xR, xS]; omega
  | k + 1, hk => by
    obtain ⟨⟨r0, r1⟩, s0, s1⟩ := las_bd l u hl hl2 hu hu2 k (by omega)
    simp only [xR, xS]
    generalize xR (fun _ => 3465 * l) (3465 * u) k = X at *
    generalize xS (fun _ => 3465 * l) (fun k p => p / (2 * (k : Int) + 1)) (3465 * u) k = Y at *
    have hm0 : 0 ≤ min X (3465 * l) := by omega
    have hm1 : min X (3465 * l) ≤ 3465 * l := by omega
    have hm2 : min X (3465 * l) ≤ X := by omega
    generalize min X (3465 * l) = m at *
    have d0 : 0 ≤ m / (2 * (k : Int) + 1) := Int.ediv_nonneg hm0 (by omega)
    have d1 : m / (2 * (k : Int) + 1) ≤ m := Int.ediv_le_self _ hm0
    generalize m / (2 * (k : Int) + 1) = z at *
    have e : ((k + 1 : Nat) : Int) * (3465 * l) = k * (3465 * l) + 3465 * l := by rw [Int.natCast_add, Int.add_mul]; simp
    rw [e]
    refine ⟨⟨by omega, by omega⟩, by omega, by omega⟩
theorem q6 (k : Nat) (hk : k < 6) : 1 ≤ qd k ∧ qd k ≤ 3465 ∧ (2 * (k : Int) + 1) * qd k = 3465 := by
  have hc : k = 0 ∨ k = 1 ∨ k = 2 ∨ k = 3 ∨ k = 4 ∨ k = 5 := by omega
  rcases hc with rfl | rfl | rfl | rfl | rfl | rfl <;> decide
theorem eat_bd (l x : Int) (hl : 1 ≤ l) (hl2 : l ≤ 1000000000000) (hx : -100000000000000000 ≤ x) (hx2 : x ≤ 100000000000000000) : ∀ k : Nat, k ≤ 6 →
    (-100000000000000000 ≤ xR (fun k => qd k * l) x k ∧ xR (fun k => qd k * l) x k ≤ 100000000000000000 ∧ (k = 0 ∨ 0 ≤ xR (fun k => qd k * l) x k)) ∧ (-100000000000000000 ≤ xS (fun k => qd k * l) (fun k p => p * (2 * (k : Int) + 1)) x k ∧ xS (fun k => qd k * l) (fun k p => p * (2 * (k : Int) + 1)) x k ≤ k * (3465 * l))
  | 0, _ => by simp [xR, xS]; omega
  | k + 1, hk => by
    obtain ⟨⟨r0, r1, r2⟩, s0, s1⟩ := eat_bd l x hl hl2 hx hx2 k (by omega)
    obtain ⟨q1, q2, q3⟩ := q6 k (by omega)
    have r3 : k = 0 → xR (fun k => qd k * l) x k = x := by rintro rfl; rfl
    have s3 : k = 0 → xS (fun k => qd k * l) (fun k p => p * (2 * (k : Int) + 1)) x k = 0 := by rintro rfl; rfl
    simp only [xR, xS]
    generalize xR (fun k => qd k * l) x k = X at *
    generalize xS (fun k => qd k * l) (fun k p => p * (2 * (k : Int) + 1)) x k = Y at *
    have z0 : 0 ≤ qd k * l := Int.mul_nonneg (by omega) (by omega)
    have z1 : qd k * l * (2 * (k : Int) + 1) = 3465 * l := by rw [← q3]; ac_rfl
    generalize qd k * l = Z at *
    have hm1 : min X Z ≤ Z := by omega
    have hm2 : min X Z ≤ X := by omega
    have hm3 : min X Z = X ∨ min X Z = Z := by omega
    generalize min X Z = m at *
    have d1 : m * (2 * (k : Int) + 1) ≤ Z * (2 * (k : Int) + 1) := Int.mul_le_mul_of_nonneg_right hm1 (by omega)
    have d2 : 0 ≤ m → 0 ≤ m * (2 * (k : Int) + 1) := fun h => Int.mul_nonneg h (by omega)
    have d3 : k = 0 → m * (2 * (k : Int) + 1) = m := by rintro rfl; simp
    generalize m * (2 * (k : Int) + 1) = z at *
    have e : ((k + 1 : Nat) : Int) * (3465 * l) = k * (3465 * l) + 3465 * l := by rw [Int.natCast_add, Int.add_mul]; simp
    rw [e]
    by_cases hk0 : k = 0
    · have := r3 hk0; have := s3 hk0; have := d3 hk0
      subst hk0
      simp only [Int.natCast_zero, Int.zero_mul] at *
      refine ⟨⟨by omega, by omega, by omega⟩, by omega, by omega⟩
    · refine ⟨⟨by omega, by omega, by omega⟩, by omega, by omega⟩

set_option maxHeartbeats 800000 in
theorem lasts_impl (L E M l u : Int) (hl : L * M = 3465 * l) (h1 : 1 ≤ l) (h2 : l ≤ 1000000000000) (h3 : 0 ≤ u) (h4 : u ≤ 100000000000000) (w : World) :
    Calls Try.prog 96 #[.agg #[.int .i64 L, .int .i64 E, .int .i64 M], .int .i64 (3465 * u)] w fun e w' => e = .returned (.tuple #[.int .i64 (dS l u), .bool (decide (u ≤ 6 * l))]) ∧ Below w.heap.size w w' := by
  have HL := Lib.hid (fun W => load_impl L E M (3465 * l) hl (by omega) (by omega) W)
  have hbd := las_bd l u h1 h2 h3 h4
  have hX := Lib.hid (fun (g : Nat) (W : World) (hc : W.cell? ⟨g, 0, none⟩ = some (.int .i64 (3465 * l))) (hg : g < W.heap.size) => exch_lc (fun _ => 3465 * l) (fun k p => p / (2 * (k : Int) + 1)) (3465 * u) g W
    (fun k hk => by have := (hbd k hk).1; omega) (fun k hk => by omega)
    (fun k hk => by have := (hbd k hk).2; have hk' : (k : Int) * (3465 * l) ≤ 6 * (3465 * l) := Int.mul_le_mul_of_nonneg_right (by omega) (by omega)
                    omega)
    (fun k hk V hV => clo1_lc g (3465 * l) _ V (keepa hV hg hc))
    (fun k hk V => clo2_lc _ _ _ V (by have := (hbd k (by omega)).1; omega) (by omega) rfl (by have := (hbd k (by omega)).1; omega)))
  rw [(lasts_is l u h1 h3).2] at hX
  have e6 : decide (xR (fun _ => 3465 * l) (3465 * u) 6 = 0) = decide (u ≤ 6 * l) := decide_eq_decide.2 (lasts_end l u h1 h3)
  rw [e6] at hX
  clear hl hbd e6
  generalize decide (u ≤ 6 * l) = bb at *
  generalize dS l u = dd at *
  go_enter Try.func96, Try.ntmps96
  (go_wp2_with fail; refine (HL.out _).mono ?_; rintro e w1 ⟨rfl, hb1⟩; have ha1 := hb1; obtain ⟨kc1, kf1, kz1, ky1, kx1, kv1, ku1⟩ := bcell hb1)
  go_wp2_with fail
  refine (hX.out w1.heap.size _ (by simp) (by simp)).mono ?_
  rintro e w2 ⟨rfl, hb2⟩
  have ha2 : Below w.heap.size w w2 := by (repeat (first | with_reducible exact Below.refl _ _ | with_reducible assumption | with_reducible refine balloc ?_ _ | with_reducible refine bdrew ?_ | with_reducible refine below_drewN ?_ _ | with_reducible refine bset ?_ ?_ _ | with_reducible exact Nat.le_refl _ | with_reducible refine bsize ?_ | (dsimp only; refine Nat.le_trans ?_ (Nat.le_add_right _ _)) | with_reducible refine Nat.le_trans ?_ (Nat.le_add_right _ _) | (with_reducible refine bstep ?_ (by assumption))))
  clear hb2 hb1 kc1 kf1 kz1 ky1 kx1 kv1 ku1
  go_wp2
  go_ret2
  exact ⟨rfl, ha2⟩
set_option maxHeartbeats 800000 in
theorem eaten_impl (L E M l x : Int) (hl : L * M = 3465 * l) (h1 : 1 ≤ l) (h2 : l ≤ 1000000000000) (h3 : -100000000000000000 ≤ x) (h4 : x ≤ 100000000000000000) (w : World) :
    Calls Try.prog 97 #[.agg #[.int .i64 L, .int .i64 E, .int .i64 M], .int .i64 x] w fun e w' => e = .returned (.tuple #[.int .i64 (eS l x), .bool (decide (x ≤ 6508 * l))]) ∧ Below w.heap.size w w' := by
  have HL := Lib.hid (fun W => load_impl L E M (3465 * l) hl (by omega) (by omega) W)
  have hbd := eat_bd l x h1 h2 h3 h4
  have hpr : ∀ k : Nat, k < 6 → 0 ≤ qd k * l ∧ qd k * l ≤ 3465 * l ∧ 3465 * l = (2 * (k : Int) + 1) * (qd k * l) := by
    intro k hk
    obtain ⟨q1, q2, q3⟩ := q6 k hk
    exact ⟨Int.mul_nonneg (by omega) (by omega), Int.mul_le_mul_of_nonneg_right q2 (by omega), by rw [← Int.mul_assoc, q3]⟩
  have hX := Lib.hid (fun (g : Nat) (W : World) (hc : W.cell? ⟨g, 0, none⟩ = some (.int .i64 (3465 * l))) (hg : g < W.heap.size) => exch_le (fun k => qd k * l) (fun k p => p * (2 * (k : Int) + 1)) x g W
    (fun k hk => by have := (hbd k hk).1; omega) (fun k hk => by have := hpr k hk; omega)
    (fun k hk => by have := (hbd k hk).2; have hk' : (k : Int) * (3465 * l) ≤ 6 * (3465 * l) := Int.mul_le_mul_of_nonneg_right (by omega) (by omega)
                    omega)
    (fun k hk V hV => clo1_le g (3465 * l) _ (qd k * l) V (keepa hV hg hc) (by omega) (hpr k hk).2.2 (hpr k hk).1 (by omega))
    (fun k hk V => clo2_le _ _ V
      (by have a := (hbd k (by omega)).2.1; have b := (hbd (k + 1) (by omega)).2.1; have e : xS (fun k => qd k * l) (fun k p => p * (2 * (k : Int) + 1)) x (k + 1) = xS (fun k => qd k * l) (fun k p => p * (2 * (k : Int) + 1)) x k + min (xR (fun k => qd k * l) x k) (qd k * l) * (2 * (k : Int) + 1) := rfl
          have c := (hbd k (by omega)).2.2; have hk' : (k : Int) * (3465 * l) ≤ 6 * (3465 * l) := Int.mul_le_mul_of_nonneg_right (by omega) (by omega)
          omega)
      (by have a := (hbd k (by omega)).2.1; have b := (hbd (k + 1) (by omega)).2.2; have e : xS (fun k => qd k * l) (fun k p => p * (2 * (k : Int) + 1)) x (k + 1) = xS (fun k => qd k * l) (fun k p => p * (2 * (k : Int) + 1)) x k + min (xR (fun k => qd k * l) x k) (qd k * l) * (2 * (k : Int) + 1) := rfl
          have hk' : ((k + 1 : Nat) : Int) * (3465 * l) ≤ 7 * (3465 * l) := Int.mul_le_mul_of_nonneg_right (by omega) (by omega)
          omega)))
  have e6 : decide (xR (fun k => qd k * l) x 6 = 0) = decide (x ≤ 6508 * l) := decide_eq_decide.2 (eat_end l x h1)
  rw [e6, show xS (fun k => qd k * l) (fun k p => p * (2 * (k : Int) + 1)) x 6 = eS l x from rfl] at hX
  clear hl hbd e6 hpr
  generalize decide (x ≤ 6508 * l) = bb at *
  generalize eS l x = dd at *
  go_enter Try.func97, Try.ntmps97
  (go_wp2_with fail; refine (HL.out _).mono ?_; rintro e w1 ⟨rfl, hb1⟩; have ha1 := hb1; obtain ⟨kc1, kf1, kz1, ky1, kx1, kv1, ku1⟩ := bcell hb1)
  go_wp2_with fail
  refine (hX.out w1.heap.size _ (by simp) (by simp)).mono ?_
  rintro e w2 ⟨rfl, hb2⟩
  have ha2 : Below w.heap.size w w2 := by (repeat (first | with_reducible exact Below.refl _ _ | with_reducible assumption | with_reducible refine balloc ?_ _ | with_reducible refine bdrew ?_ | with_reducible refine below_drewN ?_ _ | with_reducible refine bset ?_ ?_ _ | with_reducible exact Nat.le_refl _ | with_reducible refine bsize ?_ | (dsimp only; refine Nat.le_trans ?_ (Nat.le_add_right _ _)) | with_reducible refine Nat.le_trans ?_ (Nat.le_add_right _ _) | (with_reducible refine bstep ?_ (by assumption))))
  clear hb2 hb1 kc1 kf1 kz1 ky1 kx1 kv1 ku1
  go_wp2
  go_ret2
  exact ⟨rfl, ha2⟩
end Go.Proofs.Ytgpbkjakmbmccaa
