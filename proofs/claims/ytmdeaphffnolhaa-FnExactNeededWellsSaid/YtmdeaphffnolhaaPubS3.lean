/- The contracts of amTimes and TimesAmount, of the model, over the translated program. -/
import Derived.Test.YtmdeaphffnolhaaOpsS
namespace Go.Proofs.Ytmdeaphffnolhaa
open Go.RowKit
set_option linter.unusedSimpArgs false
set_option linter.unusedVariables false

end Go.Proofs.Ytmdeaphffnolhaa
