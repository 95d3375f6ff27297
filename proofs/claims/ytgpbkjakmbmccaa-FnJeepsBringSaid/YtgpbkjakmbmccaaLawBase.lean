/- What the laws on two amounts share. -/
import Derived.Test.YtgpbkjakmbmccaaBase
import Derived.Test.YtgpbkjakmbmccaaOps
import Derived.Deep.RegionHeld3
import Derived.Deep.DeepCutAuto
namespace Go.Proofs.Ytgpbkjakmbmccaa
open Go.ChangeShapes Go.WideShapes Go.ChangeAt Go.RowKit Go.Joins
set_option linter.unusedVariables false
set_option linter.unusedSimpArgs false

end Go.Proofs.Ytgpbkjakmbmccaa
