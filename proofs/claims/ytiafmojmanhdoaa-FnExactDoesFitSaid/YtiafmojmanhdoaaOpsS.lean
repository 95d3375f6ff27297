/- Contracts of the model: two amounts, comparing, over the translated program. -/
import Derived.Test.YtiafmojmanhdoaaOps
namespace Go.Proofs.Ytiafmojmanhdoaa
open Go.RowKit
set_option linter.unusedSimpArgs false
set_option linter.unusedVariables false

def sgI (x : Int) : Int := if 0 < x then 1 else if x < 0 then -1 else 0
end Go.Proofs.Ytiafmojmanhdoaa
