/- The contract of addUp, over a slice of amounts wherever it lies. -/
import Derived.Test.YtiafmojmanhdoaaReck1
import Derived.Test.YtiafmojmanhdoaaPubS1
import Derived.Test.YtiafmojmanhdoaaStep
import Derived.Test.YtiafmojmanhdoaaRow
import Derived.Test.YtiafmojmanhdoaaRowG
namespace Go.Proofs.Ytiafmojmanhdoaa
open Go.RowKit
set_option maxRecDepth 100000
set_option linter.unusedVariables false
set_option linter.unusedSimpArgs false

/-- All of a list together, from what there is already, one after the other; none if one of the sums, or a summand, is no amount. -/
def sumL : List (Int × Int) → Int → Int → Option (Int × Int)
  | [], x, y => some (x, y)
  | a :: l, x, y => if (amB a.1 a.2 && lowB (x * a.2 + a.1 * y) (y * a.2)) = true then sumL l (lowN (x * a.2 + a.1 * y) (y * a.2)) (lowD (x * a.2 + a.1 * y) (y * a.2)) else none
def oB (o : Option (Int × Int)) : Bool := o.isSome
def oN (o : Option (Int × Int)) : Int := match o with | some p => p.1 | none => 0
def oD (o : Option (Int × Int)) : Int := match o with | some p => p.2 | none => 0

/-- The cells of an amount. -/
def fAmt (p : Int × Int) : List Int := [p.1, p.2]
theorem fAmt_len (p : Int × Int) : (fAmt p).length = 2 := rfl
theorem infoAmt : (Try.prog.info? 101).map (fun i => (i.zero, i.size, i.bytes)) = some (some (.agg #[.int .i64 0, .int .i64 0]), 2, 16) := by kernel_rfl

end Go.Proofs.Ytiafmojmanhdoaa
