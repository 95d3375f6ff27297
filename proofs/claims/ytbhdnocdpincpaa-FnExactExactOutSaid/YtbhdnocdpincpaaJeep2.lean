/- Contracts of journey.farthest, tanksOf and journey.farthestWith, of the program. -/
import Derived.Test.YtbhdnocdpincpaaJeep
import Derived.IntWalk
namespace Go.Proofs.Ytbhdnocdpincpaa
open Go.RowKit
set_option maxRecDepth 100000
set_option linter.unusedVariables false
set_option linter.unusedSimpArgs false

/-- Is it fuel of at most m tanks? -/
def tkB (n d m : Int) : Bool := amB n d && decide (n ≤ m * d)
theorem tkB_yes (n d m : Int) (h : tkB n d m = true) : amB n d = true ∧ n ≤ m * d := by simpa [tkB] using h

/-- How far with n / d, at most m tanks: is there an answer, and which. -/
def fwB (j n d : Int) : Bool := tkB n d 10 && lowB (fwN j n d) (fwD j n d)
def fwX (j n d : Int) : Int := if fwB j n d = true then lowN (fwN j n d) (fwD j n d) else 0
def fwY (j n d : Int) : Int := if fwB j n d = true then lowD (fwN j n d) (fwD j n d) else 0
theorem tk_quot (n d m : Int) (k : Nat) (hk : m = k) (h : tkB n d m = true) : ∃ t : Nat, t ≤ k ∧ n / d = t ∧ (n / d).toNat = t := by
  obtain ⟨h1, hle⟩ := tkB_yes n d m h
  obtain ⟨a1, a2, a3, a4⟩ := am_of n d h1
  have e1 : 0 ≤ n / d := Int.ediv_nonneg a1 (by omega)
  have e2 : n / d ≤ m := Int.le_of_lt_add_one (Int.ediv_lt_of_lt_mul (by omega) (by rw [Int.add_mul]; omega))
  exact ⟨(n / d).toNat, by omega, by omega, rfl⟩
theorem rem_bd (n d : Int) (h : amB n d = true) : 0 ≤ n % d ∧ n % d ≤ 1000000000 ∧ n % d < d := by
  obtain ⟨a1, a2, a3, a4⟩ := am_of n d h
  have e3 : 0 ≤ n % d := Int.emod_nonneg _ (by omega)
  have e4 : n % d < d := Int.emod_lt_of_pos _ (by omega)
  omega

end Go.Proofs.Ytbhdnocdpincpaa
