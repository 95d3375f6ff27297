/- The laws' helpers on an answer that is a list of ints: two without elements are equal; one is written, and read again. -/
import Derived.Test.YtgpbkjakmbmccaaRow
import Derived.Deep.RegionHeld3
namespace Go.Proofs.Ytgpbkjakmbmccaa
open Go.ChangeShapes Go.WideShapes Go.ChangeAt Go.RowKit Go.Joins
set_option maxRecDepth 100000
set_option linter.unusedVariables false
set_option linter.unusedSimpArgs false

def fInt (x : Int) : List Int := [x]
theorem fInt_len (x : Int) : (fInt x).length = 1 := rfl
theorem infoInt : (Try.prog.info? 3).map (fun i => (i.zero, i.size, i.bytes)) = some (some (.int .i64 0), 1, 8) := by kernel_rfl
end Go.Proofs.Ytgpbkjakmbmccaa
