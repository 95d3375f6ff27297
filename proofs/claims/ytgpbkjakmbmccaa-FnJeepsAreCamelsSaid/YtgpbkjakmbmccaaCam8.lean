/- Camels: all parts of a way, of the model: the contract of caParts. -/
import Derived.Test.YtgpbkjakmbmccaaCam7
import Derived.Test.YtgpbkjakmbmccaaOrd
namespace Go.Proofs.Ytgpbkjakmbmccaa
open Go.ChangeShapes Go.WideShapes Go.ChangeAt Go.RowKit Go.Joins
set_option maxRecDepth 100000
set_option linter.unusedVariables false
set_option linter.unusedSimpArgs false

end Go.Proofs.Ytgpbkjakmbmccaa
