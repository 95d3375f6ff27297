/- The laws' helpers on a list of ints, told of whatever row. -/
import Derived.Test.YtbaaaaceejgofaaOInt
namespace Go.Proofs.Ytbaaaaceejgofaa
open Go.ChangeShapes Go.WideShapes Go.ChangeAt Go.RowKit Go.Joins
set_option maxRecDepth 100000
set_option linter.unusedVariables false
set_option linter.unusedSimpArgs false

theorem eqr_ints (v1 v2 : Value) (l : List Int) (b1 b2 : Nat) (w : World) (hn : l.length ≤ 1048576) (h1 : w.ownsRow b1 3 1 v1 l.length (cellsG fInt l)) (h2 : w.ownsRow b2 3 1 v2 l.length (cellsG fInt l)) :
    Calls Try.prog 11 #[v1, v2] w fun e w' => e = .returned (.bool true) ∧ Below w.heap.size w w' := by
  have h1' := h1
  have h2' := h2
  rcases h1.2 with ⟨rfl, z1⟩ | ⟨g1, c1, cur1, rfl, _⟩ <;> rcases h2.2 with ⟨rfl, z2⟩ | ⟨g2, c2, cur2, rfl, _⟩
  · exact eq_ints_nil _ _ _ _ _
  · rw [z1]; exact eq_ints_nil _ _ _ _ _
  · rw [z2]; exact eq_ints_nil _ _ _ _ _
  · exact eq_ints _ _ _ _ _ _ _ _ hn h1' h2'
end Go.Proofs.Ytbaaaaceejgofaa
