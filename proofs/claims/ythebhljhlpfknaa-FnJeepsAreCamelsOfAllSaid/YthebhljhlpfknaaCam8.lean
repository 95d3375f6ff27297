/- Camels: all parts of a way, of the model: the contract of caParts. -/
import Derived.Test.YthebhljhlpfknaaCam7
import Derived.Test.YthebhljhlpfknaaOrd
namespace Go.Proofs.Ythebhljhlpfknaa
open Go.ChangeShapes Go.WideShapes Go.ChangeAt Go.RowKit Go.Joins
set_option maxRecDepth 100000
set_option linter.unusedVariables false
set_option linter.unusedSimpArgs false

end Go.Proofs.Ythebhljhlpfknaa
