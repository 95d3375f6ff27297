/- The contracts of reckon at times, and of TimesAmount, of the program, over the translated program. -/
import Derived.Test.YtngoibohkckgpaaReckNo
namespace Go.Proofs.Ytngoibohkckgpaa
open Go.RowKit
set_option linter.unusedSimpArgs false
set_option linter.unusedVariables false

end Go.Proofs.Ytngoibohkckgpaa
