/- The contracts of amTimes and TimesAmount, of the model, over the translated program. -/
import Derived.Test.YthfaljninmcopaaOpsS
namespace Go.Proofs.Ythfaljninmcopaa
open Go.RowKit
set_option linter.unusedSimpArgs false
set_option linter.unusedVariables false

end Go.Proofs.Ythfaljninmcopaa
