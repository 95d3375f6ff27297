/- Camels: contracts of the program's measure and of what asks for camels, goods and places. -/
import Derived.Test.YtbaaaaceejgofaaCamM
import Derived.Test.YtbaaaaceejgofaaOps
import Derived.Deep.RegionHeld3
import Derived.Deep.RegionWith
namespace Go.Proofs.Ytbaaaaceejgofaa
open Go.RowKit
set_option maxRecDepth 100000
set_option linter.unusedVariables false
set_option linter.unusedSimpArgs false

def camB (L E : Int) : Bool := inB L 1 12 && inB E 1 12
theorem camB_yes (L E : Int) (h : camB L E = true) : 1 ≤ L ∧ L ≤ 12 ∧ 1 ≤ E ∧ E ≤ 12 := by
  unfold camB inB at h; simp at h; omega
def askB (L E n d : Int) : Bool := camB L E && (amB n d && decide (d ≤ 12 ∧ n ≤ 6 * L * d))
def plB (n d : Int) : Bool := amB n d && decide (d ≤ 1000000)
end Go.Proofs.Ytbaaaaceejgofaa
