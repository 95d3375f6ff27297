/- Camels: the contract of OneTrip, of the model. -/
import Derived.Test.YtgpbkjakmbmccaaCamN
namespace Go.Proofs.Ytgpbkjakmbmccaa
open Go.RowKit
set_option maxRecDepth 100000
set_option linter.unusedVariables false
set_option linter.unusedSimpArgs false

theorem no_low (k : Bool) (n d : Int) (h : k = false) : twoN k n d = 0 ∧ twoD k n d = 0 ∧ twoB k n d = false := by subst h; exact two_no n d
end Go.Proofs.Ytgpbkjakmbmccaa
