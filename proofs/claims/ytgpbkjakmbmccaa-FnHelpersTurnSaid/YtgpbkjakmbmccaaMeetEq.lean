/- Two meetings compared. -/
import Derived.Test.YtgpbkjakmbmccaaRelA
import Derived.ChangeKeysEq
import Derived.Test.YtgpbkjakmbmccaaRow
namespace Go.Proofs.Ytgpbkjakmbmccaa
open Go.ChangeShapes Go.WideShapes Go.ChangeAt Go.RowKit Go.Joins
set_option maxRecDepth 100000
set_option linter.unusedVariables false
set_option linter.unusedSimpArgs false

theorem infoInt1 : (Try.prog.info? 3).map (fun i => (i.zero, i.size, i.bytes)) = some (some (.int .i64 0), 1, 8) := by kernel_rfl
@[go_sem] theorem eq_meet (x y z a b c : Int) (W : World) :
    (Op.equalIn 10000 86 (.agg #[.int .i64 x, .int .i64 y, .int .i64 z]) (.agg #[.int .i64 a, .int .i64 b, .int .i64 c])).run Try.prog W = .ok (x == a && (y == b && z == c)) W := by
  obtain ⟨i0, hi, _, _, _⟩ := info_parts infoInt1
  rw [show (10000 : Nat) = 9999 + 1 from rfl, run_equalIn_array W 9999 _ _ Try.underlying86 hi, cellsInt, show List.range 3 = [0, 1, 2] from rfl]
  simp [Op.eqItems, go_sem]
  by_cases h1 : x = a <;> by_cases h2 : y = b <;> by_cases h3 : z = c <;> simp [h1, h2, h3]
end Go.Proofs.Ytgpbkjakmbmccaa
