/- The laws' helpers on a list of amts, told of whatever row. -/
import Derived.Test.YtiafmojmanhdoaaOAmount
import Derived.Test.YtiafmojmanhdoaaQAmount
namespace Go.Proofs.Ytiafmojmanhdoaa
open Go.ChangeShapes Go.WideShapes Go.ChangeAt Go.RowKit Go.Joins
set_option maxRecDepth 100000
set_option linter.unusedVariables false
set_option linter.unusedSimpArgs false

end Go.Proofs.Ytiafmojmanhdoaa
