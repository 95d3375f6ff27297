/- The laws' helpers on lists of amts: the copy is a row of its own; two rows of one list are equal. -/
import Derived.Test.YtiafmojmanhdoaaAddUp
import Derived.Test.YtiafmojmanhdoaaLawBase
import Derived.Deep.RegionHeld3
namespace Go.Proofs.Ytiafmojmanhdoaa
open Go.ChangeShapes Go.WideShapes Go.ChangeAt Go.RowKit Go.Joins
set_option maxRecDepth 100000
set_option linter.unusedVariables false
set_option linter.unusedSimpArgs false

theorem infoAmount : (Try.prog.info? 101).map (fun i => (i.zero, i.size, i.bytes)) = some (some (.agg #[.int .i64 0, .int .i64 0]), 2, 16) := by kernel_rfl

end Go.Proofs.Ytiafmojmanhdoaa
