/- What the laws on two amounts share. -/
import Derived.Test.YtiafmojmanhdoaaBase
import Derived.Test.YtiafmojmanhdoaaOps
import Derived.Deep.RegionHeld3
import Derived.Deep.DeepCutAuto
namespace Go.Proofs.Ytiafmojmanhdoaa
open Go.ChangeShapes Go.WideShapes Go.ChangeAt Go.RowKit Go.Joins
set_option linter.unusedVariables false
set_option linter.unusedSimpArgs false

end Go.Proofs.Ytiafmojmanhdoaa
