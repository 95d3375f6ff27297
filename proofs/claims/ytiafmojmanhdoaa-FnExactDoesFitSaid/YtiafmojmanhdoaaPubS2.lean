/- The contracts of amLess and LessAmount, of the model, over the translated program. -/
import Derived.Test.YtiafmojmanhdoaaOpsS
namespace Go.Proofs.Ytiafmojmanhdoaa
open Go.RowKit
set_option linter.unusedSimpArgs false
set_option linter.unusedVariables false

end Go.Proofs.Ytiafmojmanhdoaa
