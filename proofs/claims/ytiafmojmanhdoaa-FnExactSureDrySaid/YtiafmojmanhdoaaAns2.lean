/- Answers that are a list and a bool, told from an earlier world on. -/
import Derived.Test.YtiafmojmanhdoaaAns
namespace Go.Proofs.Ytiafmojmanhdoaa
open Go.ChangeShapes Go.WideShapes Go.ChangeAt Go.RowKit Go.Joins
set_option linter.unusedVariables false

theorem ends_at {α : Type} {f : FuncId} {args : Array Value} {ty m : Nat} {F : α → List Int} {l : List α} {b : Bool} {B W : World} (hB : Below B.heap.size B W) (h : Calls Try.prog f args W (EndG ty m F l b W)) :
    Calls Try.prog f args W fun e w' => ∃ g c, e = .returned (.tuple #[.slice (some ⟨g, 0, none⟩) l.length c, .bool b]) ∧ w'.ownsRow B.heap.size ty m (.slice (some ⟨g, 0, none⟩) l.length c) l.length (cellsG F l) ∧ Below B.heap.size B w' := by
  refine h.mono ?_
  rintro e w' ⟨g, c, rfl, hown, hb⟩
  exact ⟨g, c, rfl, own_mono hown hB.size, bstep hB hb⟩
theorem endn_at {f : FuncId} {args : Array Value} {b : Bool} {B W : World} (hB : Below B.heap.size B W) (h : Calls Try.prog f args W (EndN b W)) :
    Calls Try.prog f args W fun e w' => ∃ a c, e = .returned (.tuple #[.slice a 0 c, .bool b]) ∧ Below B.heap.size B w' := by
  refine h.mono ?_
  rintro e w' ⟨a, c, rfl, hb⟩
  exact ⟨a, c, rfl, bstep hB hb⟩
end Go.Proofs.Ytiafmojmanhdoaa
