/- Camels: plain facts (no program): one stop. -/
import Derived.Test.YtgpbkjakmbmccaaCamG
namespace Go.Proofs.Ytgpbkjakmbmccaa
open Go.RowKit
set_option linter.unusedVariables false
set_option linter.unusedSimpArgs false

/-- What is left at the stop p / q; behind the way r / s. -/
def osA (L E n d p q s : Int) : Int := q * s * n - d * s * p * E * (2 * (trp (L * (d * q * s)) (q * s * n) : Int) - 1)
def osB (L E n d p q r s : Int) : Int := osA L E n d p q s - (d * q * r * E - d * s * p * E) * (2 * (trp (L * (d * q * s)) (osA L E n d p q s) : Int) - 1)
/-- The model's numbers at the stop. -/
def thN (L E n d p q : Int) : Int := rdN n d * q - (2 * (trp (L * d) n : Int) - 1) * E * p * rdD n d
def thD (n d q : Int) : Int := rdD n d * q
structure ThIs (L E n d p q s : Int) (g : Int) : Prop where
  g1 : 1 ≤ g
  a : osA L E n d p q s = g * thN L E n d p q
  b : d * q * s = g * thD n d q
  c : 1 ≤ thD n d q
theorem th_is (L E n d p q s : Int) (hd : 1 ≤ d) (hq : 1 ≤ q) (hs : 1 ≤ s) : ThIs L E n d p q s (s * gi n d) := by
  obtain ⟨g1, a, b, q1⟩ := rd_is n d hd
  have ht : trp (L * (d * q * s)) (q * s * n) = trp (L * d) n := by
    have e1 : L * (d * q * s) = (q * s) * (L * d) := by ac_rfl
    have := Int.mul_pos (show 0 < q by omega) (show 0 < s by omega)
    rw [e1, trp_scale _ _ _ (by omega)]
  have hs2 := Int.mul_pos (show 0 < s by omega) (show 0 < gi n d by omega)
  refine ⟨by omega, ?_, ?_, ?_⟩
  · unfold osA thN
    rw [ht]
    generalize (2 * (trp (L * d) n : Int) - 1) = c at *
    generalize rdN n d = X at *; generalize rdD n d = Y at *; generalize gi n d = g at *
    subst a; subst b
    have e1 : q * s * (g * X) = s * g * (X * q) := by ac_rfl
    have e2 : g * Y * s * p * E * c = s * g * (c * E * p * Y) := by ac_rfl
    rw [e1, e2, Int.mul_sub]
  · unfold thD
    generalize rdD n d = Y at *; generalize gi n d = g at *
    subst b
    ac_rfl
  · unfold thD; have := Int.mul_pos (show 0 < rdD n d by omega) (show 0 < q by omega); omega
theorem th_trp (L E n d p q s : Int) (hd : 1 ≤ d) (hq : 1 ≤ q) (hs : 1 ≤ s) : trp (L * thD n d q) (thN L E n d p q) = trp (L * (d * q * s)) (osA L E n d p q s) := by
  obtain ⟨g1, a, b, c⟩ := th_is L E n d p q s hd hq hs
  rw [a, b, show L * (s * gi n d * thD n d q) = s * gi n d * (L * thD n d q) by ac_rfl, trp_scale _ _ _ g1]
theorem os_low (L E n d p q r s : Int) (hd : 1 ≤ d) (hq : 1 ≤ q) (hs : 1 ≤ s) :
    lowB ((thN L E n d p q * q + (2 * (trp (L * thD n d q) (thN L E n d p q) : Int) - 1) * E * p * thD n d q) * s - (2 * (trp (L * thD n d q) (thN L E n d p q) : Int) - 1) * E * r * (q * thD n d q)) (q * thD n d q * s) = lowB (osB L E n d p q r s) (d * q * s) ∧
    lowN ((thN L E n d p q * q + (2 * (trp (L * thD n d q) (thN L E n d p q) : Int) - 1) * E * p * thD n d q) * s - (2 * (trp (L * thD n d q) (thN L E n d p q) : Int) - 1) * E * r * (q * thD n d q)) (q * thD n d q * s) = lowN (osB L E n d p q r s) (d * q * s) ∧
    lowD ((thN L E n d p q * q + (2 * (trp (L * thD n d q) (thN L E n d p q) : Int) - 1) * E * p * thD n d q) * s - (2 * (trp (L * thD n d q) (thN L E n d p q) : Int) - 1) * E * r * (q * thD n d q)) (q * thD n d q * s) = lowD (osB L E n d p q r s) (d * q * s) := by
  have ht := th_trp L E n d p q s hd hq hs
  obtain ⟨g1, a, b, c⟩ := th_is L E n d p q s hd hq hs
  unfold osB
  rw [ht]
  generalize (2 * (trp (L * (d * q * s)) (osA L E n d p q s) : Int) - 1) = t at *
  rw [a]
  generalize thN L E n d p q = X at *
  generalize thD n d q = Y at *
  generalize s * gi n d = g at *
  clear ht a
  have hdqs := Int.mul_pos (Int.mul_pos (show 0 < d by omega) (show 0 < q by omega)) (show 0 < s by omega)
  have hqy := Int.mul_pos (Int.mul_pos (show 0 < q by omega) (show 0 < Y by omega)) (show 0 < s by omega)
  have hqs := Int.mul_pos (show 0 < q by omega) (show 0 < s by omega)
  refine lw_cross _ _ _ _ (by omega) (by omega) ?_
  have e0 : d * q * s = Y * g := by rw [b]; ac_rfl
  have t1 : X * q * s * (d * q * s) = g * X * (q * Y * s) := by rw [e0]; ac_rfl
  have t2 : t * E * p * Y * s * (d * q * s) = d * s * p * E * t * (q * Y * s) := by ac_rfl
  have t3 : t * E * r * (q * Y) * (d * q * s) = d * q * r * E * t * (q * Y * s) := by ac_rfl
  simp only [Int.sub_mul, Int.add_mul]
  rw [t1, t2, t3]
  omega
/-- The way is too long. -/
theorem os_far (L E n d p q r s : Int) (hE : 1 ≤ E) (hd : 1 ≤ d) (hq : 1 ≤ q) (hs : 1 ≤ s) (hp : 0 ≤ p) (hn : n ≤ 864) (hb : d * s * p * E ≤ d * q * r * E) (hr : 1000 * s < r) : osB L E n d p q r s < 0 := by
  have h1 := (trp_bd (L * (d * q * s)) (q * s * n)).1
  have h2 := (trp_bd (L * (d * q * s)) (osA L E n d p q s)).1
  have a1 : 0 ≤ d * s * p * E := Int.mul_nonneg (Int.mul_nonneg (Int.mul_nonneg (by omega) (by omega)) hp) (by omega)
  have a2 : d * s * p * E ≤ d * s * p * E * (2 * (trp (L * (d * q * s)) (q * s * n) : Int) - 1) := by
    have := Int.mul_le_mul_of_nonneg_left (show (1 : Int) ≤ 2 * (trp (L * (d * q * s)) (q * s * n) : Int) - 1 by omega) a1; omega
  have a3 : (d * q * r * E - d * s * p * E) ≤ (d * q * r * E - d * s * p * E) * (2 * (trp (L * (d * q * s)) (osA L E n d p q s) : Int) - 1) := by
    have := Int.mul_le_mul_of_nonneg_left (show (1 : Int) ≤ 2 * (trp (L * (d * q * s)) (osA L E n d p q s) : Int) - 1 by omega) (show 0 ≤ d * q * r * E - d * s * p * E by omega); omega
  have a4 : osA L E n d p q s ≤ q * s * n - d * s * p * E := by unfold osA; omega
  have a5 : osB L E n d p q r s ≤ q * s * n - d * q * r * E := by unfold osB; omega
  have a6 : q * s * n ≤ q * (864 * s) := by
    rw [Int.mul_assoc]; refine Int.mul_le_mul_of_nonneg_left ?_ (by omega)
    rw [Int.mul_comm]; exact Int.mul_le_mul_of_nonneg_right hn (by omega)
  have a7 : q * (1000 * s) < q * r := Int.mul_lt_mul_of_pos_left hr (by omega)
  have a8 : q * r ≤ d * q * r * E := by
    have e : d * q * r * E = (d * E) * (q * r) := by ac_rfl
    have h3 := Int.mul_pos (show 0 < d by omega) (show 0 < E by omega)
    have h4 : 0 ≤ q * r := Int.mul_nonneg (by omega) (by omega)
    have := Int.mul_le_mul_of_nonneg_right (show 1 ≤ d * E by omega) h4
    rw [e]; omega
  have a9 : 0 < q * s := Int.mul_pos (by omega) (by omega)
  have b1 : q * (864 * s) = 864 * (q * s) := by ac_rfl
  have b2 : q * (1000 * s) = 1000 * (q * s) := by ac_rfl
  omega
/-- Less than nothing at the stop stays so. -/
theorem os_neg (L E n d p q r s : Int) (hb : d * s * p * E ≤ d * q * r * E) (h : osA L E n d p q s < 0) : osB L E n d p q r s < 0 := by
  have h2 := (trp_bd (L * (d * q * s)) (osA L E n d p q s)).1
  have a3 : 0 ≤ (d * q * r * E - d * s * p * E) * (2 * (trp (L * (d * q * s)) (osA L E n d p q s) : Int) - 1) := Int.mul_nonneg (by omega) (by omega)
  unfold osB; omega
/-- The numbers of the model's second reckoning can be reckoned. -/
theorem os_bd (L E n d p q r s c : Int) (hE : 1 ≤ E) (hE2 : E ≤ 12) (hn : 0 ≤ n) (hn2 : n ≤ 864) (hd : 1 ≤ d) (hd2 : d ≤ 12) (hp : 0 ≤ p) (hp2 : p ≤ 1000000000) (hq : 1 ≤ q) (hq2 : q ≤ 1000000) (hr : 0 ≤ r) (hr2 : r ≤ 1000000000) (hs : 1 ≤ s) (hs2 : s ≤ 1000000) (hc : 1 ≤ c) (hc2 : c ≤ 11) (h0 : 0 ≤ thN L E n d p q) :
    OnceBd (thN L E n d p q) (thD n d q) p q (c * E) r s ∧ thN L E n d p q ≤ 864000000 ∧ 1 ≤ thD n d q ∧ thD n d q ≤ 12000000 := by
  obtain ⟨g1, a, b, q1⟩ := rd_is n d hd
  have hbt := trp_bd (L * d) n
  obtain ⟨y1, y2, y3, _, _⟩ := rd_bd n d hd
  obtain ⟨y3, y4⟩ := y3 hn
  have c1 : 0 ≤ (2 * (trp (L * d) n : Int) - 1) * E := Int.mul_nonneg (by omega) (by omega)
  have c2 : 0 ≤ (2 * (trp (L * d) n : Int) - 1) * E * p * rdD n d := Int.mul_nonneg (Int.mul_nonneg c1 hp) (by omega)
  have c3 := mul_le2 (rdN n d) q 864 1000000 y3 (by omega) (by omega) hq2
  have c4 := mul_le2 (rdD n d) q 12 1000000 (by omega) (by omega) (by omega) hq2
  have c5 := Int.mul_pos (show 0 < rdD n d by omega) (show 0 < q by omega)
  have t1 : thN L E n d p q ≤ 864000000 := by unfold thN; omega
  have t2 : 1 ≤ thD n d q ∧ thD n d q ≤ 12000000 := by unfold thD; omega
  have r1 := mul_le2 c E 11 12 (by omega) hc2 (by omega) hE2
  have m1 := mul_le2 (thN L E n d p q) q 864000000 1000000 h0 t1 (by omega) hq2
  have m2 := mul_le2 (c * E) p 132 1000000000 r1.1 r1.2 hp hp2
  have m3 := mul_le2 (c * E * p) (thD n d q) 132000000000 12000000 m2.1 m2.2 (by omega) t2.2
  have m4 := mul_le2 q (thD n d q) 1000000 12000000 (by omega) hq2 (by omega) t2.2
  have m4' := Int.mul_pos (show 0 < q by omega) (show 0 < thD n d q by omega)
  -- in lowest terms
  have hdq := mul_le2 d q 12 1000000 (by omega) hd2 (by omega) hq2
  have hdq' := Int.mul_pos (show 0 < d by omega) (show 0 < q by omega)
  have e1 : gi n d * (thN L E n d p q * q + c * E * p * thD n d q) = q * (n * q + (c - (2 * (trp (L * d) n : Int) - 1)) * (E * p * d)) := by
    unfold thN thD
    generalize (2 * (trp (L * d) n : Int) - 1) = t at *
    generalize rdN n d = X at *; generalize rdD n d = Y at *; generalize gi n d = g at *
    subst a; subst b
    have u1 : g * (X * q * q) = q * (g * X * q) := by ac_rfl
    have u2 : g * (t * E * p * Y * q) = q * (t * (E * p * (g * Y))) := by ac_rfl
    have u3 : g * (c * E * p * (Y * q)) = q * (c * (E * p * (g * Y))) := by ac_rfl
    simp only [Int.mul_add, Int.sub_mul, Int.mul_sub]
    rw [u1, u2, u3]
    omega
  have e2 : gi n d * (q * thD n d q) = q * (d * q) := by
    unfold thD
    generalize rdD n d = Y at *; generalize gi n d = g at *
    subst b
    ac_rfl
  have s1 := rd_scale (gi n d) (thN L E n d p q * q + c * E * p * thD n d q) (q * thD n d q) (by omega)
  rw [e1, e2] at s1
  have s2 := rd_scale q (n * q + (c - (2 * (trp (L * d) n : Int) - 1)) * (E * p * d)) (d * q) (by omega)
  have x1 : rdN (thN L E n d p q * q + c * E * p * thD n d q) (q * thD n d q) = rdN (n * q + (c - (2 * (trp (L * d) n : Int) - 1)) * (E * p * d)) (d * q) := s1.1.symm.trans s2.1
  have x2 : rdD (thN L E n d p q * q + c * E * p * thD n d q) (q * thD n d q) = rdD (n * q + (c - (2 * (trp (L * d) n : Int) - 1)) * (E * p * d)) (d * q) := s1.2.symm.trans s2.2
  obtain ⟨z1, z2, z3, z4, _⟩ := rd_bd (n * q + (c - (2 * (trp (L * d) n : Int) - 1)) * (E * p * d)) (d * q) (by omega)
  have w1 := mul_le2 E p 12 1000000000 (by omega) hE2 hp hp2
  have w2 := mul_le2 (E * p) d 12000000000 12 w1.1 w1.2 (by omega) hd2
  have w3 := mul_le2 n q 864 1000000 hn hn2 (by omega) hq2
  have w4 : (c - (2 * (trp (L * d) n : Int) - 1)) * (E * p * d) ≤ 11 * 144000000000 := by
    have h1 : c - (2 * (trp (L * d) n : Int) - 1) ≤ 11 := by omega
    exact Int.le_trans (Int.mul_le_mul_of_nonneg_right h1 w2.1) (Int.mul_le_mul_of_nonneg_left w2.2 (by omega))
  have w5 : 0 ≤ n * q + (c - (2 * (trp (L * d) n : Int) - 1)) * (E * p * d) := by
    refine Decidable.byContradiction fun hn => ?_
    have h1 : 0 ≤ thN L E n d p q * q + c * E * p * thD n d q := by omega
    have h2 : 0 ≤ gi n d * (thN L E n d p q * q + c * E * p * thD n d q) := Int.mul_nonneg (by omega) h1
    have h3 := Int.mul_neg_of_pos_of_neg (show 0 < q by omega) (show n * q + (c - (2 * (trp (L * d) n : Int) - 1)) * (E * p * d) < 0 by omega)
    omega
  obtain ⟨z3, z3'⟩ := z3 w5
  rw [← x1] at z3 z3'
  rw [← x2] at z1 z2
  have v1 := mul_le2 _ s 1584864000000 1000000 z3 (by omega) (by omega) hs2
  have v2 := mul_le2 (c * E) r 132 1000000000 r1.1 r1.2 hr hr2
  have v3 := mul_le2 (c * E * r) _ 132000000000 12000000 v2.1 v2.2 (show 0 ≤ rdD (thN L E n d p q * q + c * E * p * thD n d q) (q * thD n d q) by omega) (by omega)
  have v4 := mul_le2 (rdD (thN L E n d p q * q + c * E * p * thD n d q) (q * thD n d q)) s 12000000 1000000 (by omega) (by omega) (by omega) hs2
  clear e1 e2 s1 s2 x1 x2 a b w4 w5 z4
  exact ⟨⟨⟨by omega, by omega, by omega, by omega, by omega⟩, by omega, by omega, by omega, by omega, by omega, by omega⟩, t1, t2.1, t2.2⟩
end Go.Proofs.Ytgpbkjakmbmccaa
