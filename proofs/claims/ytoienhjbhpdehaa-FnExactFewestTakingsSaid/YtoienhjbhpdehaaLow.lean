/- Contracts of lowestTerms (the program) and amMake (the model), over the translated program. -/
import Derived.Test.YtoienhjbhpdehaaGcd
import Derived.Lib.SmallJoins
import Derived.Outline
namespace Go.Proofs.Ytoienhjbhpdehaa
open Go.RowKit

theorem div_bounds (n g : Int) (h : 0 ≤ n) (hg : 1 ≤ g) (hn : n ≤ 9223372036854775807) : 0 ≤ n / g ∧ n / g ≤ 9223372036854775807 :=
  ⟨Int.ediv_nonneg h (by omega), Int.le_trans (Int.ediv_le_self _ h) hn⟩

end Go.Proofs.Ytoienhjbhpdehaa
