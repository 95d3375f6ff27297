/- The contracts of amAdd and AddAmounts, of the model, over the translated program. -/
import Derived.Test.YtgmgifgbalcngaaOpsS
namespace Go.Proofs.Ytgmgifgbalcngaa
open Go.RowKit
set_option linter.unusedSimpArgs false
set_option linter.unusedVariables false

end Go.Proofs.Ytgmgifgbalcngaa
