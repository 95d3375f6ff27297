/- Camels: what is left behind a way, of the model. -/
import Derived.Test.YtgpbkjakmbmccaaCam9
import Derived.Test.YtgpbkjakmbmccaaLawCb
import Derived.Deep.RegionHeld3
import Derived.Deep.DeepCutAuto
namespace Go.Proofs.Ytgpbkjakmbmccaa
open Go.ChangeShapes Go.WideShapes Go.ChangeAt Go.RowKit Go.Joins
set_option maxRecDepth 100000
set_option linter.unusedVariables false
set_option linter.unusedSimpArgs false

end Go.Proofs.Ytgpbkjakmbmccaa
