/- Camels: what the laws of chapter 4 take. -/
import Derived.Test.YtgpbkjakmbmccaaLawBase
import Derived.Test.YtgpbkjakmbmccaaCamM
namespace Go.Proofs.Ytgpbkjakmbmccaa
open Go.ChangeShapes Go.WideShapes Go.ChangeAt Go.RowKit Go.Joins
set_option maxRecDepth 100000
set_option linter.unusedVariables false
set_option linter.unusedSimpArgs false

end Go.Proofs.Ytgpbkjakmbmccaa
