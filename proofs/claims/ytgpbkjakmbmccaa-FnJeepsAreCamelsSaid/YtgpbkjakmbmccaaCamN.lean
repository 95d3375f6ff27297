/- Camels: plain facts: what the model reckons is what the program reckons. -/
import Derived.Test.YtgpbkjakmbmccaaCam4
import Derived.Test.YtgpbkjakmbmccaaCam5
namespace Go.Proofs.Ytgpbkjakmbmccaa
open Go.RowKit
set_option maxRecDepth 100000
set_option linter.unusedVariables false
set_option linter.unusedSimpArgs false

/-- What is left, reckoned from a place in lowest terms on. -/
theorem once_low (A B q s : Int) (hB : 1 ≤ B) (hq : 1 ≤ q) :
    lowB (rdN A B * q - s * rdD A B) (rdD A B * q) = lowB (A * q - s * B) (B * q) ∧ lowN (rdN A B * q - s * rdD A B) (rdD A B * q) = lowN (A * q - s * B) (B * q) ∧ lowD (rdN A B * q - s * rdD A B) (rdD A B * q) = lowD (A * q - s * B) (B * q) := by
  obtain ⟨g1, a, b, q1⟩ := rd_is A B hB
  generalize rdN A B = X at *; generalize rdD A B = Y at *; generalize gi A B = g at *
  have hY := Int.mul_pos (show 0 < Y by omega) (show 0 < q by omega)
  have h := lw_scale g (X * q - s * Y) (Y * q) (by omega) (by omega)
  have e1 : g * (X * q - s * Y) = A * q - s * B := by rw [a, b, Int.mul_sub]; congr 1 <;> ac_rfl
  have e2 : g * (Y * q) = B * q := by rw [b]; ac_rfl
  rw [e1, e2] at h
  exact ⟨h.1.symm, h.2.1.symm, h.2.2.symm⟩
theorem ab_le (x : Int) (K : Int) (h : 0 ≤ x ∧ x ≤ K) (hK : K ≤ 9000000000000000000) : -9000000000000000000 ≤ x ∧ x ≤ 9000000000000000000 := by omega
theorem once_bd (a b p q r n d : Int) (a0 : 0 ≤ a) (a1 : a ≤ 1000) (b0 : 1 ≤ b) (b1 : b ≤ 12) (p0 : 0 ≤ p) (p1 : p ≤ 1000000) (q0 : 1 ≤ q) (q1 : q ≤ 500000) (r0 : 0 ≤ r) (r1 : r ≤ 132) (n0 : 0 ≤ n) (n1 : n ≤ 1000000000) (d0 : 1 ≤ d) (d1 : d ≤ 1000000) : OnceBd a b p q r n d := by
  have m1 := mul_le2 a q 1000 500000 a0 a1 (by omega) q1
  have m2 := mul_le2 r p 132 1000000 r0 r1 p0 p1
  have m3 := mul_le2 (r * p) b 132000000 12 m2.1 (by omega) (by omega) b1
  have m4 := mul_le2 q b 500000 12 (by omega) q1 (by omega) b1
  have m4' := Int.mul_pos (show 0 < q by omega) (show 0 < b by omega)
  obtain ⟨x1, x2, x3, _, _⟩ := rd_bd (a * q + r * p * b) (q * b) (by omega)
  have x3 := x3 (by omega)
  have m5 := mul_le2 (rdN (a * q + r * p * b) (q * b)) d 2084000000 1000000 x3.1 (by omega) (by omega) d1
  have m6 := mul_le2 r n 132 1000000000 r0 r1 n0 n1
  have m7 := mul_le2 (r * n) (rdD (a * q + r * p * b) (q * b)) 132000000000 6000000 m6.1 (by omega) (by omega) (by omega)
  have m8 := mul_le2 (rdD (a * q + r * p * b) (q * b)) d 6000000 1000000 (by omega) (by omega) (by omega) d1
  exact ⟨⟨by omega, by omega, by omega, by omega, by omega⟩, by omega, by omega, by omega, by omega, by omega, by omega⟩
/-- What made_spec and once_spec give together, in other numbers. -/
theorem two_cong (k : Bool) {n d n' d' : Int} (h : lowB n d = lowB n' d' ∧ lowN n d = lowN n' d' ∧ lowD n d = lowD n' d') : twoB k n d = twoB k n' d' ∧ twoN k n d = twoN k n' d' ∧ twoD k n d = twoD k n' d' := by
  unfold twoB twoN twoD; rw [h.1, h.2.1, h.2.2]; exact ⟨rfl, rfl, rfl⟩
/-- The goods of one trip: at most a load. -/
def otA (L n d : Int) : Int := if L * d < n then L else n
def otB (L n d : Int) : Int := if L * d < n then 1 else d
theorem ot_low (L E n d p q : Int) (hL : 1 ≤ L) (hd : 1 ≤ d) (hq : 1 ≤ q) :
    lowB (otA L n d * q - E * p * otB L n d) (otB L n d * q) = lowB (oneTripX L E n d p q) (oneTripM L E n d p q) ∧ lowN (otA L n d * q - E * p * otB L n d) (otB L n d * q) = lowN (oneTripX L E n d p q) (oneTripM L E n d p q) ∧ lowD (otA L n d * q - E * p * otB L n d) (otB L n d * q) = lowD (oneTripX L E n d p q) (oneTripM L E n d p q) := by
  have hdq := Int.mul_pos (show 0 < d by omega) (show 0 < q by omega)
  unfold oneTripX oneTripM otA otB
  by_cases h : L * d < n
  · rw [if_pos h, if_pos h]
    have hc : L * (d * q) ≤ q * n := by
      rw [← Int.mul_assoc, Int.mul_comm (L * d)]; exact Int.mul_le_mul_of_nonneg_left (by omega) (by omega)
    have hk := lw_scale (3465 * d) (L * q - E * p * 1) (1 * q) (by omega) (by omega)
    have e1 : 3465 * d * (L * q - E * p * 1) = min (3465 * (q * n)) (3465 * (L * (d * q))) - d * 3465 * p * E := by
      have f1 : 3465 * d * (L * q) = 3465 * (L * (d * q)) := by ac_rfl
      have f2 : 3465 * d * (E * p * 1) = d * 3465 * p * E := by rw [Int.mul_one]; ac_rfl
      rw [Int.mul_sub, f1, f2]; omega
    have e2 : 3465 * d * (1 * q) = d * q * 3465 := by rw [Int.one_mul]; ac_rfl
    rw [e1, e2] at hk
    exact ⟨hk.1.symm, hk.2.1.symm, hk.2.2.symm⟩
  · rw [if_neg h, if_neg h]
    have hc : q * n ≤ L * (d * q) := by
      rw [← Int.mul_assoc, Int.mul_comm (L * d)]; exact Int.mul_le_mul_of_nonneg_left (by omega) (by omega)
    have hk := lw_scale 3465 (n * q - E * p * d) (d * q) (by omega) (by omega)
    have e1 : 3465 * (n * q - E * p * d) = min (3465 * (q * n)) (3465 * (L * (d * q))) - d * 3465 * p * E := by
      have f1 : 3465 * (n * q) = 3465 * (q * n) := by ac_rfl
      have f2 : 3465 * (E * p * d) = d * 3465 * p * E := by ac_rfl
      rw [Int.mul_sub, f1, f2]; omega
    have e2 : 3465 * (d * q) = d * q * 3465 := by ac_rfl
    rw [e1, e2] at hk
    exact ⟨hk.1.symm, hk.2.1.symm, hk.2.2.symm⟩
end Go.Proofs.Ytgpbkjakmbmccaa
