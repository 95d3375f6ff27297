/- Contracts of the two functions that find greatest common divisors, over the translated program. -/
import Derived.Test.YtoienhjbhpdehaaRows
import Derived.Test.YtoienhjbhpdehaaMath
import Derived.WalkKit
import Derived.WalkSpells
import Derived.BigQuiet
import Derived.Deep.QuietTactic
import Derived.Lib.Hide
namespace Go.Proofs.Ytoienhjbhpdehaa
open Go.RowKit

end Go.Proofs.Ytoienhjbhpdehaa
