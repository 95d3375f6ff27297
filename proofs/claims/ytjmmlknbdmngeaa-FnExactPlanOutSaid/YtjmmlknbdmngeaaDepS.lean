/- Contracts of jeDepots, of the model. -/
import Derived.Test.YtjmmlknbdmngeaaDepP
import Derived.Test.YtjmmlknbdmngeaaPubS1
import Derived.Deep.RegionWith
namespace Go.Proofs.Ytjmmlknbdmngeaa
open Go.ChangeShapes Go.WideShapes Go.ChangeAt Go.RowKit Go.Joins
set_option maxRecDepth 100000
set_option linter.unusedVariables false
set_option linter.unusedSimpArgs false

end Go.Proofs.Ytjmmlknbdmngeaa
