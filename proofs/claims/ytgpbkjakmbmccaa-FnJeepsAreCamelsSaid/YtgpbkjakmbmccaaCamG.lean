/- Camels: plain facts (no program): the parts of a way, and what is left behind it, as the model reckons them. -/
import Derived.Test.YtgpbkjakmbmccaaCamN
namespace Go.Proofs.Ytgpbkjakmbmccaa
open Go.RowKit
set_option linter.unusedVariables false
set_option linter.unusedSimpArgs false

/-- A fraction in lowest terms, and what leads to the next one. -/
theorem add_step (A A' D m e : Int) (hD : 1 ≤ D) (he : 1 ≤ e) (h : m * D = (A' - A) * e) :
    rdN (rdN A D * e + m * rdD A D) (e * rdD A D) = rdN A' D ∧ rdD (rdN A D * e + m * rdD A D) (e * rdD A D) = rdD A' D := by
  obtain ⟨a, b⟩ := rd_add A D m e hD he
  have e1 : A * e + m * D = e * A' := by
    rw [h, Int.sub_mul, Int.mul_comm e A']; omega
  rw [e1] at a b
  obtain ⟨s1, s2⟩ := rd_scale e A' D (by omega)
  exact ⟨a.trans s1, b.trans s2⟩
theorem rd_le (A D p q : Int) (hD : 1 ≤ D) : (p * rdD A D ≤ rdN A D * q) ↔ p * D ≤ A * q := by
  obtain ⟨g1, a, b, q1⟩ := rd_is A D hD
  generalize rdN A D = X at *; generalize rdD A D = Y at *; generalize gi A D = g at *
  subst a; subst b
  have e1 : p * (g * Y) = g * (p * Y) := by ac_rfl
  have e2 : g * X * q = g * (X * q) := by ac_rfl
  rw [e1, e2]
  constructor
  · intro h; exact Int.mul_le_mul_of_nonneg_left h (by omega)
  · intro h; exact Int.le_of_mul_le_mul_left h (by omega)
theorem rd_ge (A D p q : Int) (hD : 1 ≤ D) : (rdN A D * q ≤ p * rdD A D) ↔ A * q ≤ p * D := by
  obtain ⟨g1, a, b, q1⟩ := rd_is A D hD
  generalize rdN A D = X at *; generalize rdD A D = Y at *; generalize gi A D = g at *
  subst a; subst b
  have e1 : p * (g * Y) = g * (p * Y) := by ac_rfl
  have e2 : g * X * q = g * (X * q) := by ac_rfl
  rw [e1, e2]
  constructor
  · intro h; exact Int.mul_le_mul_of_nonneg_left h (by omega)
  · intro h; exact Int.le_of_mul_le_mul_left h (by omega)
theorem key1 (c qk d E gd Y m : Int) (h1 : c * qk = 3465) (h2 : m * d = Y * gd) : m * (3465 * (d * E)) = (qk * Y) * (gd * (c * E)) := by
  have e1 : m * (3465 * (d * E)) = 3465 * E * (m * d) := by ac_rfl
  have e2 : (qk * Y) * (gd * (c * E)) = (c * qk) * E * (Y * gd) := by ac_rfl
  rw [e1, e2, h1, h2]
/-- Where a part of the way begins: so many goods, u in units, gn / gd, k loads and a part of one more. -/
structure PartAt (L d n : Int) (k : Nat) (U gn gd : Int) : Prop where
  k6 : k < 6
  l1 : 1 ≤ L * d
  lo : k * (L * d) ≤ U
  hi : U ≤ (k + 1) * (L * d)
  gd1 : 1 ≤ gd
  eq : gn * d = U * gd
/-- The way back from all goods on, to the end of the part. -/
theorem part_end (L E d n : Int) (k : Nat) (U gn gd : Int) (h : PartAt L d n k U gn gd) (hE : 1 ≤ E) (hd : 1 ≤ d) :
    (gn - (k * L) * gd) * (3465 * (d * E)) = ((dS (L * d) n - dS (L * d) (k * (L * d))) - (dS (L * d) n - dS (L * d) U)) * (gd * ((2 * (k : Int) + 1) * E)) := by
  obtain ⟨k6, l1, lo, hi, gd1, eq⟩ := h
  obtain ⟨e1, e2⟩ := dS_at (L * d) U k k6 l1 lo hi
  have e3 := dS_whole (L * d) k (by omega) l1
  have e4 : (dS (L * d) n - dS (L * d) (k * (L * d))) - (dS (L * d) n - dS (L * d) U) = qd k * (U - k * (L * d)) := by rw [e1, e3]; omega
  rw [e4]
  refine key1 (2 * (k : Int) + 1) (qd k) d E gd (U - k * (L * d)) (gn - k * L * gd) e2 ?_
  have e5 : (k : Int) * L * gd * d = k * (L * d) * gd := by ac_rfl
  rw [Int.sub_mul, Int.sub_mul, eq, e5]
/-- The way on, to where one load more is. -/
theorem part_more (L E d n : Int) (k : Nat) (U gn gd : Int) (h : PartAt L d n k U gn gd) (hE : 1 ≤ E) (hd : 1 ≤ d) :
    (((k : Int) + 1) * L * gd - gn) * (3465 * (d * E)) = ((dS (L * d) (((k : Int) + 1) * (L * d)) - dS (L * d) n) - (dS (L * d) U - dS (L * d) n)) * (gd * ((2 * (k : Int) + 1) * E)) := by
  obtain ⟨k6, l1, lo, hi, gd1, eq⟩ := h
  obtain ⟨e1, e2⟩ := dS_at (L * d) U k k6 l1 lo hi
  obtain ⟨e3, _⟩ := dS_at (L * d) (((k : Int) + 1) * (L * d)) k k6 l1 (by rw [Int.add_mul]; omega) (Int.le_refl _)
  have e4 : (dS (L * d) (((k : Int) + 1) * (L * d)) - dS (L * d) n) - (dS (L * d) U - dS (L * d) n) = qd k * (((k : Int) + 1) * (L * d) - U) := by
    rw [e1, e3, Int.mul_sub, Int.mul_sub, Int.mul_sub]; omega
  rw [e4]
  refine key1 (2 * (k : Int) + 1) (qd k) d E gd (((k : Int) + 1) * (L * d) - U) (((k : Int) + 1) * L * gd - gn) e2 ?_
  have e5 : ((k : Int) + 1) * L * gd * d = ((k : Int) + 1) * (L * d) * gd := by ac_rfl
  rw [Int.sub_mul, Int.sub_mul, eq, e5]
theorem lef_eq (gn gd d U q p E c aN aD AA : Int) (h1 : gn * d = U * gd) (h2 : aN * (3465 * (d * E)) = AA * aD) :
    ((gn * aD + c * E * aN * gd) * q - c * E * p * (aD * gd)) * (d * q * 3465) = (3465 * (q * U) + c * (q * AA) - c * (d * 3465 * p * E)) * (aD * gd * q) := by
  have t1 : gn * aD * q * (d * q * 3465) = 3465 * (q * U) * (aD * gd * q) := by
    have : gn * aD * q * (d * q * 3465) = (gn * d) * (aD * q * q * 3465) := by ac_rfl
    rw [this, h1]; ac_rfl
  have t2 : c * E * aN * gd * q * (d * q * 3465) = c * (q * AA) * (aD * gd * q) := by
    have : c * E * aN * gd * q * (d * q * 3465) = (aN * (3465 * (d * E))) * (c * gd * q * q) := by ac_rfl
    rw [this, h2]; ac_rfl
  have t3 : c * E * p * (aD * gd) * (d * q * 3465) = c * (d * 3465 * p * E) * (aD * gd * q) := by ac_rfl
  simp only [Int.sub_mul, Int.add_mul]
  rw [t1, t2, t3]
/-- What is left by the rate of a part, at way x from all goods on. -/
theorem lef_val (L d n q : Int) (k : Nat) (U gn gd W : Int) (h : PartAt L d n k U gn gd) (hq : 1 ≤ q) (h0 : dC k * (L * (d * q)) ≤ dS (L * (d * q)) (q * n) - W) (h1 : dS (L * (d * q)) (q * n) - W ≤ dC (k + 1) * (L * (d * q))) :
    3465 * (q * U) + (2 * (k : Int) + 1) * (q * (dS (L * d) n - dS (L * d) U)) - (2 * (k : Int) + 1) * W = eS (L * (d * q)) (dS (L * (d * q)) (q * n) - W) := by
  obtain ⟨k6, l1, lo, hi, gd1, eq⟩ := h
  have hl : L * (d * q) = q * (L * d) := by ac_rfl
  have hl1 : 1 ≤ L * (d * q) := by rw [hl]; have := Int.mul_pos (show 0 < q by omega) (show 0 < L * d by omega); omega
  rw [eS_at _ _ k k6 hl1 h0 h1, hl, dS_scale (L * d) n q (by omega)]
  obtain ⟨e1, e2⟩ := dS_at (L * d) U k k6 l1 lo hi
  have e3 : (2 * (k : Int) + 1) * dS (L * d) U = (2 * (k : Int) + 1) * (dC k * (L * d)) + 3465 * (U - k * (L * d)) := by
    rw [e1, Int.mul_add, ← Int.mul_assoc _ (qd k), e2]
  have e4 : 3465 * U + (2 * (k : Int) + 1) * (dS (L * d) n - dS (L * d) U) = 3465 * (k * (L * d)) + (2 * (k : Int) + 1) * dS (L * d) n - (2 * (k : Int) + 1) * (dC k * (L * d)) := by
    rw [Int.mul_sub, e3]; omega
  have e5 : 3465 * (q * U) + (2 * (k : Int) + 1) * (q * (dS (L * d) n - dS (L * d) U)) = q * (3465 * U + (2 * (k : Int) + 1) * (dS (L * d) n - dS (L * d) U)) := by
    rw [Int.mul_add]; congr 1 <;> ac_rfl
  have e6 : q * (3465 * (k * (L * d)) + (2 * (k : Int) + 1) * dS (L * d) n - (2 * (k : Int) + 1) * (dC k * (L * d))) = 3465 * k * (q * (L * d)) + (2 * (k : Int) + 1) * (q * dS (L * d) n) - (2 * (k : Int) + 1) * (dC k * (q * (L * d))) := by
    rw [Int.mul_sub, Int.mul_add]
    congr 1
    · congr 1 <;> ac_rfl
    · ac_rfl
  rw [e5, e4, e6, Int.mul_sub, Int.mul_sub]
  omega
/-- What the model makes of it. -/
theorem lef_low (L E d n q p : Int) (k : Nat) (U gn gd aN aD : Int) (h : PartAt L d n k U gn gd) (hd : 1 ≤ d) (hq : 1 ≤ q) (haD : 1 ≤ aD) (h2 : aN * (3465 * (d * E)) = (dS (L * d) n - dS (L * d) U) * aD)
    (h0 : dC k * (L * (d * q)) ≤ dS (L * (d * q)) (q * n) - d * 3465 * p * E) (h1 : dS (L * (d * q)) (q * n) - d * 3465 * p * E ≤ dC (k + 1) * (L * (d * q))) :
    lowB ((gn * aD + (2 * (k : Int) + 1) * E * aN * gd) * q - (2 * (k : Int) + 1) * E * p * (aD * gd)) (aD * gd * q) = lowB (eS (L * (d * q)) (dS (L * (d * q)) (q * n) - d * 3465 * p * E)) (d * q * 3465) ∧
    lowN ((gn * aD + (2 * (k : Int) + 1) * E * aN * gd) * q - (2 * (k : Int) + 1) * E * p * (aD * gd)) (aD * gd * q) = lowN (eS (L * (d * q)) (dS (L * (d * q)) (q * n) - d * 3465 * p * E)) (d * q * 3465) ∧
    lowD ((gn * aD + (2 * (k : Int) + 1) * E * aN * gd) * q - (2 * (k : Int) + 1) * E * p * (aD * gd)) (aD * gd * q) = lowD (eS (L * (d * q)) (dS (L * (d * q)) (q * n) - d * 3465 * p * E)) (d * q * 3465) := by
  have hv := lef_val L d n q k U gn gd (d * 3465 * p * E) h hq h0 h1
  have hgd := h.gd1
  have m1 := Int.mul_pos (show 0 < aD by omega) (show 0 < gd by omega)
  have m2 := Int.mul_pos m1 (show 0 < q by omega)
  have m3 := Int.mul_pos (Int.mul_pos (show 0 < d by omega) (show 0 < q by omega)) (show (0 : Int) < 3465 by omega)
  refine lw_cross _ _ _ _ (by omega) (by omega) ?_
  rw [lef_eq gn gd d U q p E (2 * (k : Int) + 1) aN aD _ h.eq h2, hv]
end Go.Proofs.Ytgpbkjakmbmccaa
