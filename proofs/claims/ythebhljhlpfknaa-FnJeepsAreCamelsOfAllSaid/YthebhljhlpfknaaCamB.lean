/- Camels: what the laws of chapter 4 take. -/
import Derived.Test.YthebhljhlpfknaaLawBase
import Derived.Test.YthebhljhlpfknaaCamM
namespace Go.Proofs.Ythebhljhlpfknaa
open Go.ChangeShapes Go.WideShapes Go.ChangeAt Go.RowKit Go.Joins
set_option maxRecDepth 100000
set_option linter.unusedVariables false
set_option linter.unusedSimpArgs false

end Go.Proofs.Ythebhljhlpfknaa
