/- The contract of reckon where one of both is no amount, over the translated program. -/
import Derived.Test.YtffafiidblamkaaDoorOps
namespace Go.Proofs.YtffafiidblamkaaDoor
open Go.RowKit
set_option linter.unusedSimpArgs false
set_option linter.unusedVariables false

end Go.Proofs.YtffafiidblamkaaDoor
