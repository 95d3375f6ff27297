/- The contracts of amTimes and TimesAmount, of the model, over the translated program. -/
import Derived.Test.YtngoibohkckgpaaOpsS
namespace Go.Proofs.Ytngoibohkckgpaa
open Go.RowKit
set_option linter.unusedSimpArgs false
set_option linter.unusedVariables false

end Go.Proofs.Ytngoibohkckgpaa
