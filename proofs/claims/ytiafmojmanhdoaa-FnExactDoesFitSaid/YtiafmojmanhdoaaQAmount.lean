/- The laws' helper that compares two lists of amts. -/
import Derived.Test.YtiafmojmanhdoaaLAmount
namespace Go.Proofs.Ytiafmojmanhdoaa
open Go.ChangeShapes Go.WideShapes Go.ChangeAt Go.RowKit Go.Joins
set_option maxRecDepth 100000
set_option linter.unusedVariables false
set_option linter.unusedSimpArgs false

end Go.Proofs.Ytiafmojmanhdoaa
