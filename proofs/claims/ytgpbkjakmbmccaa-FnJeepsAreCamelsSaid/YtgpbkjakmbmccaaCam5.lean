/- Camels: contracts of the small functions of the model. -/
import Derived.Test.YtgpbkjakmbmccaaCam1
import Derived.Test.YtgpbkjakmbmccaaMake
import Derived.Deep.RegionHeld3
namespace Go.Proofs.Ytgpbkjakmbmccaa
open Go.RowKit
set_option maxRecDepth 100000
set_option linter.unusedVariables false
set_option linter.unusedSimpArgs false

theorem gi_abs (n d : Int) : gi (max n (-n)) d = gi n d := by
  unfold gi
  rcases Int.le_total 0 n with h | h
  · rw [Int.max_eq_left (by omega)]
  · rw [Int.max_eq_right (by omega), Int.neg_gcd]
/-- The numbers of a fraction p / q and n / d more can be reckoned. -/
structure FurBd (p q n d : Int) : Prop where
  xa : (-9000000000000000000 ≤ p * d ∧ p * d ≤ 9000000000000000000)
  xb : (-9000000000000000000 ≤ n * q ∧ n * q ≤ 9000000000000000000)
  xc : (-9000000000000000000 ≤ p * d + n * q ∧ p * d + n * q ≤ 9000000000000000000)
  xe : 1 ≤ d * q
  xf : d * q ≤ 9000000000000000000
/-- The numbers of what is left of a / b behind the way n / d from the place p / q on at the rate r can be reckoned. -/
structure OnceBd (a b p q r n d : Int) : Prop where
  xf : FurBd a b (r * p) q
  xa : (-9000000000000000000 ≤ r * p ∧ r * p ≤ 9000000000000000000)
  xb : (-9000000000000000000 ≤ rdN (a * q + r * p * b) (q * b) * d ∧ rdN (a * q + r * p * b) (q * b) * d ≤ 9000000000000000000)
  xc : (-9000000000000000000 ≤ r * n ∧ r * n ≤ 9000000000000000000)
  xd : (-9000000000000000000 ≤ r * n * rdD (a * q + r * p * b) (q * b) ∧ r * n * rdD (a * q + r * p * b) (q * b) ≤ 9000000000000000000)
  xe : (-9000000000000000000 ≤ rdN (a * q + r * p * b) (q * b) * d - r * n * rdD (a * q + r * p * b) (q * b) ∧ rdN (a * q + r * p * b) (q * b) * d - r * n * rdD (a * q + r * p * b) (q * b) ≤ 9000000000000000000)
  xg : (-9000000000000000000 ≤ rdD (a * q + r * p * b) (q * b) * d ∧ rdD (a * q + r * p * b) (q * b) * d ≤ 9000000000000000000)
theorem trp_exit (l u : Int) (k : Nat) (h1 : 1 ≤ k) (h7 : k ≤ 7) (lo : k = 1 ∨ ((k : Int) - 1) * l < u) (hi : k = 7 ∨ u ≤ k * l) (hl : 1 ≤ l) : trp l u = k := by
  by_cases h : k = 7
  · subst h
    have : 6 * l < u := by rcases lo with h | h <;> simp at h; omega
    unfold trp
    repeat' split
    all_goals omega
  · exact trp_at l u k h1 (by omega) (hi.resolve_left h) hl lo
end Go.Proofs.Ytgpbkjakmbmccaa
