/- The law FnExactSolutions: it answers as the model does, at every puzzle; the puzzle stays as it was, and the answer owns its memory. No condition. -/
import Derived.Test.YtiafmojmanhdoaaWalkSolutionsPk
namespace Go.Proofs.Ytiafmojmanhdoaa
open Go.ChangeShapes Go.WideShapes Go.ChangeAt Go.RowKit Go.Joins
set_option maxRecDepth 100000
set_option linter.unusedVariables false
set_option linter.unusedSimpArgs false

namespace fnExactSolutions
end fnExactSolutions
end Go.Proofs.Ytiafmojmanhdoaa
