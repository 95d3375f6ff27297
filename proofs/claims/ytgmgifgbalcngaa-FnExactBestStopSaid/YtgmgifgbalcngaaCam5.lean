/- Camels: contracts of the small functions of the model. -/
import Derived.Test.YtgmgifgbalcngaaCam1
import Derived.Test.YtgmgifgbalcngaaMake
import Derived.Deep.RegionHeld3
namespace Go.Proofs.Ytgmgifgbalcngaa
open Go.RowKit
set_option maxRecDepth 100000
set_option linter.unusedVariables false
set_option linter.unusedSimpArgs false

theorem gi_abs (n d : Int) : gi (max n (-n)) d = gi n d := by
  unfold gi
  rcases Int.le_total 0 n with h | h
  · rw [Int.max_eq_left (by omega)]
  · rw [Int.max_eq_right (by omega), Int.neg_gcd]
theorem most_spec (a b : Int) (w : World) :
    Calls Try.prog 94 #[.int .i64 a, .int .i64 b] w fun e w' => e = .returned (.int .i64 (max a b)) ∧ w = w' := by
  by_cases h : b < a
  · have e : max a b = a := by omega
    rw [e]
    go_enter Try.func94, Try.ntmps94
    go_wp2
    go_ret
    exact ⟨rfl, rfl⟩
  · have e : max a b = b := by omega
    rw [e]
    go_enter Try.func94, Try.ntmps94
    go_wp2
    go_ret
    exact ⟨rfl, rfl⟩
theorem abs_spec (n : Int) (h : (-9000000000000000000 ≤ n ∧ n ≤ 9000000000000000000)) (w : World) :
    Calls Try.prog 84 #[.int .i64 n] w fun e w' => e = .returned (.int .i64 (max n (-n))) ∧ w = w' := by
  go_enter Try.func84, Try.ntmps84
  go_wp2_with fail
  refine (most_spec _ _ _).mono ?_
  rintro e w2 ⟨rfl, rfl⟩
  go_wp2
  go_ret
  exact ⟨rfl, rfl⟩
/-- The numbers of a fraction p / q and n / d more can be reckoned. -/
structure FurBd (p q n d : Int) : Prop where
  xa : (-9000000000000000000 ≤ p * d ∧ p * d ≤ 9000000000000000000)
  xb : (-9000000000000000000 ≤ n * q ∧ n * q ≤ 9000000000000000000)
  xc : (-9000000000000000000 ≤ p * d + n * q ∧ p * d + n * q ≤ 9000000000000000000)
  xe : 1 ≤ d * q
  xf : d * q ≤ 9000000000000000000
set_option maxHeartbeats 1600000 in
theorem fur_spec (p q n d : Int) (h : FurBd p q n d) (w : World) :
    Calls Try.prog 69 #[.agg #[.int .i64 p, .int .i64 q], .int .i64 n, .int .i64 d] w fun e w' => e = .returned (.agg #[.int .i64 (rdN (p * d + n * q) (d * q)), .int .i64 (rdD (p * d + n * q) (d * q))]) ∧ Below w.heap.size w w' := by
  obtain ⟨h1, h2, h3, h4, h5⟩ := h
  obtain ⟨h1, h1'⟩ := h1
  obtain ⟨h2, h2'⟩ := h2
  have hg := gi_pos (p * d + n * q) (d * q) (by omega)
  have hg2 := gi_le (p * d + n * q) (d * q) h4
  have hq1 : Int.tdiv (p * d + n * q) (gi (p * d + n * q) (d * q)) = rdN (p * d + n * q) (d * q) := by
    unfold rdN; rw [Int.tdiv_eq_ediv_of_dvd (gi_dvd_left _ _)]
  have hq2 : Int.tdiv (d * q) (gi (p * d + n * q) (d * q)) = rdD (p * d + n * q) (d * q) := by
    unfold rdD; rw [Int.tdiv_eq_ediv_of_dvd (gi_dvd_right _ _)]
  obtain ⟨b1, b2, b3, b4, _⟩ := rd_bd (p * d + n * q) (d * q) h4
  have b5 : -9000000000000000000 ≤ rdN (p * d + n * q) (d * q) ∧ rdN (p * d + n * q) (d * q) ≤ 9000000000000000000 := by
    by_cases hh : 0 ≤ p * d + n * q
    · have := b3 hh; omega
    · have := b4 (by omega); omega
  clear b3 b4
  have HA := Lib.hid (fun W => abs_spec (p * d + n * q) h3 W)
  have HC := Lib.hid (fun W => common_spec (max (p * d + n * q) (-(p * d + n * q))) (d * q) (by omega) (by omega) (by omega) (by omega) W)
  rw [gi_abs] at HC
  generalize rdN (p * d + n * q) (d * q) = X at *
  generalize rdD (p * d + n * q) (d * q) = Y at *
  generalize gi (p * d + n * q) (d * q) = G at *
  obtain ⟨b5, b6⟩ := b5
  obtain ⟨S, hS⟩ : ∃ S, p * d + n * q = S := ⟨_, rfl⟩
  rw [hS] at h3 hq1 HA HC
  obtain ⟨h3, h3'⟩ := h3
  have hG0 : ¬ G = 0 := by omega
  go_enter Try.func69, Try.ntmps69
  go_wp2_with fail
  refine (HA.out _).mono ?_
  rintro e w1 ⟨rfl, rfl⟩
  (go_wp2_with fail; refine (HC.out _).mono ?_; rintro e w2 ⟨rfl, hb2⟩; (have ha2 : Below w.heap.size w w2 := by (repeat (first | with_reducible exact Below.refl _ _ | with_reducible assumption | with_reducible refine balloc ?_ _ | with_reducible refine bdrew ?_ | with_reducible refine below_drewN ?_ _ | with_reducible refine bset ?_ ?_ _ | with_reducible exact Nat.le_refl _ | with_reducible refine bsize ?_ | (dsimp only; refine Nat.le_trans ?_ (Nat.le_add_right _ _)) | with_reducible refine Nat.le_trans ?_ (Nat.le_add_right _ _) | (with_reducible refine bstep ?_ (by assumption))))); obtain ⟨kc2, kf2, kz2, ky2, kx2, kv2, ku2⟩ := bcell hb2)
  go_wp2
  go_region
  all_goals go_wp2
  all_goals refine bodyPost_ret (v := .agg #[.int .i64 X, .int .i64 Y]) (by simp only [results, Try.results69]; go_simp) rfl ⟨rfl, ?_⟩
  all_goals (repeat (first | with_reducible exact Below.refl _ _ | with_reducible assumption | with_reducible refine balloc ?_ _ | with_reducible refine bdrew ?_ | with_reducible refine below_drewN ?_ _ | with_reducible refine bset ?_ ?_ _ | with_reducible exact Nat.le_refl _ | with_reducible refine bsize ?_ | (dsimp only; refine Nat.le_trans ?_ (Nat.le_add_right _ _)) | with_reducible refine Nat.le_trans ?_ (Nat.le_add_right _ _) | (with_reducible refine bstep ?_ (by assumption))))
set_option maxHeartbeats 800000 in
theorem made_spec (n d : Int) (h1 : 1 ≤ d) (h2 : d ≤ 9000000000000000000) (h3 : n ≤ 9000000000000000000) (w : World) :
    Calls Try.prog 52 #[.agg #[.int .i64 n, .int .i64 d]] w fun e w' => e = .returned (.tuple #[.agg #[.int .i64 (lowN (n) (d)), .int .i64 (lowD (n) (d))], .bool (lowB (n) (d))]) ∧ Below w.heap.size w w' := by
  by_cases h : n < 0
  · have e : lowB n d = false := by
      cases hb : lowB n d
      · rfl
      · have := (lowB_iff n d).1 hb; omega
    rw [e, lowN_no _ _ e, lowD_no _ _ e]
    clear e
    go_enter Try.func52, Try.ntmps52
    go_wp2
    refine bodyPost_ret (v := .tuple #[.agg #[.int .i64 0, .int .i64 0], .bool false]) (by simp only [results, Try.results52]; go_simp) rfl ⟨rfl, ?_⟩
    (repeat (first | with_reducible exact Below.refl _ _ | with_reducible assumption | with_reducible refine balloc ?_ _ | with_reducible refine bdrew ?_ | with_reducible refine below_drewN ?_ _ | with_reducible refine bset ?_ ?_ _ | with_reducible exact Nat.le_refl _ | with_reducible refine bsize ?_ | (dsimp only; refine Nat.le_trans ?_ (Nat.le_add_right _ _)) | with_reducible refine Nat.le_trans ?_ (Nat.le_add_right _ _) | (with_reducible refine bstep ?_ (by assumption))))
  · go_enter Try.func52, Try.ntmps52
    (go_wp2_with fail; refine (make_spec _ _ (by omega) (by omega) (by omega) (by omega) _).mono ?_; rintro e w1 ⟨rfl, hb1⟩; have ha1 := hb1; obtain ⟨kc1, kf1, kz1, ky1, kx1, kv1, ku1⟩ := bcell hb1)
    go_wp2
    refine bodyPost_ret (v := .tuple #[.agg #[.int .i64 (lowN (n) (d)), .int .i64 (lowD (n) (d))], .bool (lowB (n) (d))]) (by simp only [results, Try.results52]; go_simp) rfl ⟨rfl, ?_⟩
    (repeat (first | with_reducible exact Below.refl _ _ | with_reducible assumption | with_reducible refine balloc ?_ _ | with_reducible refine bdrew ?_ | with_reducible refine below_drewN ?_ _ | with_reducible refine bset ?_ ?_ _ | with_reducible exact Nat.le_refl _ | with_reducible refine bsize ?_ | (dsimp only; refine Nat.le_trans ?_ (Nat.le_add_right _ _)) | with_reducible refine Nat.le_trans ?_ (Nat.le_add_right _ _) | (with_reducible refine bstep ?_ (by assumption))))
/-- The numbers of what is left of a / b behind the way n / d from the place p / q on at the rate r can be reckoned. -/
structure OnceBd (a b p q r n d : Int) : Prop where
  xf : FurBd a b (r * p) q
  xa : (-9000000000000000000 ≤ r * p ∧ r * p ≤ 9000000000000000000)
  xb : (-9000000000000000000 ≤ rdN (a * q + r * p * b) (q * b) * d ∧ rdN (a * q + r * p * b) (q * b) * d ≤ 9000000000000000000)
  xc : (-9000000000000000000 ≤ r * n ∧ r * n ≤ 9000000000000000000)
  xd : (-9000000000000000000 ≤ r * n * rdD (a * q + r * p * b) (q * b) ∧ r * n * rdD (a * q + r * p * b) (q * b) ≤ 9000000000000000000)
  xe : (-9000000000000000000 ≤ rdN (a * q + r * p * b) (q * b) * d - r * n * rdD (a * q + r * p * b) (q * b) ∧ rdN (a * q + r * p * b) (q * b) * d - r * n * rdD (a * q + r * p * b) (q * b) ≤ 9000000000000000000)
  xg : (-9000000000000000000 ≤ rdD (a * q + r * p * b) (q * b) * d ∧ rdD (a * q + r * p * b) (q * b) * d ≤ 9000000000000000000)
set_option maxHeartbeats 1600000 in
theorem once_spec (a b p q r n d : Int) (h : OnceBd a b p q r n d) (w : World) :
    Calls Try.prog 49 #[.agg #[.int .i64 a, .int .i64 b], .agg #[.int .i64 p, .int .i64 q], .int .i64 r, .agg #[.int .i64 n, .int .i64 d]] w fun e w' => e = .returned (.agg #[.int .i64 (rdN (a * q + r * p * b) (q * b) * d - r * n * rdD (a * q + r * p * b) (q * b)), .int .i64 (rdD (a * q + r * p * b) (q * b) * d)]) ∧ Below w.heap.size w w' := by
  obtain ⟨hf, ha, hb, hc, hd, he, hg⟩ := h
  have HF := Lib.hid (fun W => fur_spec a b (r * p) q hf W)
  clear hf
  generalize rdN (a * q + r * p * b) (q * b) = X at *
  generalize rdD (a * q + r * p * b) (q * b) = Y at *
  obtain ⟨ha, ha'⟩ := ha
  obtain ⟨hb, hb'⟩ := hb
  obtain ⟨hc, hc'⟩ := hc
  obtain ⟨hd, hd'⟩ := hd
  obtain ⟨he, he'⟩ := he
  obtain ⟨hg, hg'⟩ := hg
  go_enter Try.func49, Try.ntmps49
  (go_wp2_with fail; refine (HF.out _).mono ?_; rintro e w1 ⟨rfl, hb1⟩; have ha1 := hb1; obtain ⟨kc1, kf1, kz1, ky1, kx1, kv1, ku1⟩ := bcell hb1)
  go_wp2
  refine bodyPost_ret (v := .agg #[.int .i64 (X * d - r * n * Y), .int .i64 (Y * d)]) (by simp only [results, Try.results49]; go_simp) rfl ⟨rfl, ?_⟩
  (repeat (first | with_reducible exact Below.refl _ _ | with_reducible assumption | with_reducible refine balloc ?_ _ | with_reducible refine bdrew ?_ | with_reducible refine below_drewN ?_ _ | with_reducible refine bset ?_ ?_ _ | with_reducible exact Nat.le_refl _ | with_reducible refine bsize ?_ | (dsimp only; refine Nat.le_trans ?_ (Nat.le_add_right _ _)) | with_reducible refine Nat.le_trans ?_ (Nat.le_add_right _ _) | (with_reducible refine bstep ?_ (by assumption))))
theorem rate_spec (L E t : Int) (h1 : 0 ≤ t) (h2 : t ≤ 20) (h3 : 1 ≤ E) (h4 : E ≤ 12) (w : World) :
    Calls Try.prog 50 #[.agg #[.int .i64 L, .int .i64 E], .int .i64 t] w fun e w' => e = .returned (.int .i64 ((2 * t - 1) * E)) ∧ Below w.heap.size w w' := by
  have m : -12 ≤ (2 * t - 1) * E ∧ (2 * t - 1) * E ≤ 468 := by
    by_cases h : t = 0
    · subst h; omega
    · have := mul_le2 (2 * t - 1) E 39 12 (by omega) (by omega) (by omega) h4; omega
  obtain ⟨m1, m2⟩ := m
  go_enter Try.func50, Try.ntmps50
  go_wp2
  go_ret
  refine ⟨rfl, ?_⟩
  (repeat (first | with_reducible exact Below.refl _ _ | with_reducible assumption | with_reducible refine balloc ?_ _ | with_reducible refine bdrew ?_ | with_reducible refine below_drewN ?_ _ | with_reducible refine bset ?_ ?_ _ | with_reducible exact Nat.le_refl _ | with_reducible refine bsize ?_ | (dsimp only; refine Nat.le_trans ?_ (Nat.le_add_right _ _)) | with_reducible refine Nat.le_trans ?_ (Nat.le_add_right _ _) | (with_reducible refine bstep ?_ (by assumption))))
theorem trp_exit (l u : Int) (k : Nat) (h1 : 1 ≤ k) (h7 : k ≤ 7) (lo : k = 1 ∨ ((k : Int) - 1) * l < u) (hi : k = 7 ∨ u ≤ k * l) (hl : 1 ≤ l) : trp l u = k := by
  by_cases h : k = 7
  · subst h
    have : 6 * l < u := by rcases lo with h | h <;> simp at h; omega
    unfold trp
    repeat' split
    all_goals omega
  · exact trp_at l u k h1 (by omega) (hi.resolve_left h) hl lo
set_option maxHeartbeats 1600000 in
theorem ctrips_spec (L E n d : Int) (h1 : 1 ≤ L) (h2 : L ≤ 12) (h3 : 1 ≤ d) (h4 : d ≤ 1000000000000000) (w : World) :
    Calls Try.prog 51 #[.agg #[.int .i64 L, .int .i64 E], .int .i64 n, .int .i64 d] w fun e w' => e = .returned (.int .i64 (trp (L * d) n)) ∧ Below w.heap.size w w' := by
  have hl := Int.mul_pos (show 0 < L by omega) (show 0 < d by omega)
  have hlu := mul_le2 L d 12 1000000000000000 (by omega) h2 (by omega) h4
  go_enter Try.func51, Try.ntmps51
  go_wp2
  go_loopw [7] (fun i wr => ∃ k : Nat, 1 ≤ k ∧ k ≤ 7 ∧ i = .int .i64 k ∧ (k = 1 ∨ ((k : Int) - 1) * (L * d) < n) ∧ wr.cell? ⟨w.heap.size, 0, none⟩ = some (.int .i64 L) ∧ Below w.heap.size w wr) (fun i _ => 7 - (intOf i).toNat)
  case atStart => exact ⟨1, by omega, by omega, rfl, Or.inl rfl, by simp, by (repeat (first | with_reducible exact Below.refl _ _ | with_reducible assumption | with_reducible refine balloc ?_ _ | with_reducible refine bdrew ?_ | with_reducible refine below_drewN ?_ _ | with_reducible refine bset ?_ ?_ _ | with_reducible exact Nat.le_refl _ | with_reducible refine bsize ?_ | (dsimp only; refine Nat.le_trans ?_ (Nat.le_add_right _ _)) | with_reducible refine Nat.le_trans ?_ (Nat.le_add_right _ _) | (with_reducible refine bstep ?_ (by assumption))))⟩
  case round =>
    obtain ⟨k, hk1, hk7, rfl, hlo, c1, hbl⟩ := hrel
    have e1 : (k : Int) * L * d = k * (L * d) := Int.mul_assoc _ _ _
    have m1 := mul_le2 (k : Int) L 7 12 (by omega) (by omega) (by omega) h2
    have m2 := mul_le2 (k : Int) (L * d) 7 12000000000000000 (by omega) (by omega) (by omega) (by omega)
    rw [← e1] at m2
    obtain ⟨m1, m1'⟩ := m1
    obtain ⟨m2, m2'⟩ := m2
    by_cases hk : k ≤ 6
    · by_cases hgt : (k : Int) * L * d < n
      · have HL := Lib.hid (show ((k : Int) + 1 - 1) * (L * d) < n by rw [show (k : Int) + 1 - 1 = k by omega, ← e1]; exact hgt)
        clear e1 hlo hlu hl
        go_wp2
        go_roundw
        case rel => exact ⟨k + 1, by omega, by omega, by go_num, Or.inr (by simpa using HL.out), c1, hbl⟩
        case measure => simp [intOf]; omega
      · have ht := trp_exit (L * d) n k hk1 hk7 hlo (Or.inr (by rw [← e1]; omega)) (by omega)
        have HT := Lib.hid ht
        clear e1 hlo hlu hl ht
        go_wp2
        go_ret
        exact ⟨ret_int (by rw [HT.out]), hbl⟩
    · have hk' : k = 7 := by omega
      subst hk'
      have ht := trp_exit (L * d) n 7 hk1 hk7 hlo (Or.inl rfl) (by omega)
      have HT := Lib.hid ht
      clear e1 hlo hlu hl ht
      go_wp2
      go_ret
      exact ⟨ret_int (by rw [HT.out]), hbl⟩
end Go.Proofs.Ytgmgifgbalcngaa
