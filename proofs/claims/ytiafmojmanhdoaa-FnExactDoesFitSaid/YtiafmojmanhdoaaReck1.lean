/- The contracts of reckon at plus, and of AddAmounts, of the program, over the translated program. -/
import Derived.Test.YtiafmojmanhdoaaReckNo
namespace Go.Proofs.Ytiafmojmanhdoaa
open Go.RowKit
set_option linter.unusedSimpArgs false
set_option linter.unusedVariables false

end Go.Proofs.Ytiafmojmanhdoaa
