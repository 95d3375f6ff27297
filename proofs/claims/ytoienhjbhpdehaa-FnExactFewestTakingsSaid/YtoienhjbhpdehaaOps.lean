/- Contracts of the four methods of fuel, over the translated program. -/
import Derived.Test.YtoienhjbhpdehaaMake
namespace Go.Proofs.Ytoienhjbhpdehaa
open Go.RowKit
set_option linter.unusedSimpArgs false
set_option linter.unusedVariables false

/-- The bounds of an amount. -/
structure Am (n d : Int) : Prop where
  a : 0 ≤ n
  b : n ≤ 1000000000
  c : 1 ≤ d
  d : d ≤ 1000000000
theorem am_of (n d : Int) (h : amB n d = true) : Am n d := by
  have := (amB_iff n d).1 h; exact ⟨this.1, this.2.1, this.2.2.1, this.2.2.2.1⟩
theorem mul_bd (x y : Int) (hx : 0 ≤ x) (hx' : x ≤ 1000000000) (hy : 0 ≤ y) (hy' : y ≤ 1000000000) : 0 ≤ x * y ∧ x * y ≤ 1000000000000000000 :=
  ⟨Int.mul_nonneg hx hy, Int.le_trans (Int.mul_le_mul hx' hy' hy (by omega)) (by omega)⟩

def twoB (k : Bool) (n d : Int) : Bool := k && lowB n d
def twoN (k : Bool) (n d : Int) : Int := if k = true then lowN n d else 0
def twoD (k : Bool) (n d : Int) : Int := if k = true then lowD n d else 0
theorem two_yes (n d : Int) : twoN true n d = lowN n d ∧ twoD true n d = lowD n d ∧ twoB true n d = lowB n d := by simp [twoN, twoD, twoB]
theorem two_no (n d : Int) : twoN false n d = 0 ∧ twoD false n d = 0 ∧ twoB false n d = false := by simp [twoN, twoD, twoB]
def okk (n d p q : Int) : Bool := amB n d && amB p q

end Go.Proofs.Ytoienhjbhpdehaa
