/- The laws' helpers on an answer that is a list of amts: two without elements are equal; one is written, and read again. -/
import Derived.Test.YtiafmojmanhdoaaAddUp
import Derived.Deep.RegionHeld3
namespace Go.Proofs.Ytiafmojmanhdoaa
open Go.ChangeShapes Go.WideShapes Go.ChangeAt Go.RowKit Go.Joins
set_option maxRecDepth 100000
set_option linter.unusedVariables false
set_option linter.unusedSimpArgs false

end Go.Proofs.Ytiafmojmanhdoaa
