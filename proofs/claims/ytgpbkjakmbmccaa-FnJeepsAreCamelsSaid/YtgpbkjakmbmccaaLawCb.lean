/- What the laws of chapter 4 whose answer is an amount take: the result's block behind other calls. -/
import Derived.Test.YtgpbkjakmbmccaaCamB
import Derived.Test.YtgpbkjakmbmccaaCam6
namespace Go.Proofs.Ytgpbkjakmbmccaa
open Go.ChangeShapes Go.WideShapes Go.ChangeAt Go.RowKit Go.Joins
set_option linter.unusedVariables false
theorem HasRes.new (w : World) (x y : Value) (t : TypeId) : HasRes w.heap.size (w.alloc (.cells #[x, y] t)) :=
  ⟨x, y, by simp, by simp, by simp, by simp, by simp⟩
theorem HasRes.newd (w : World) (x y : Value) (t : TypeId) : HasRes w.heap.size (w.drew.alloc (.cells #[x, y] t)) :=
  ⟨x, y, by simp [go_sem], by simp [go_sem], by simp [go_sem], by simp [go_sem], by simp⟩
end Go.Proofs.Ytgpbkjakmbmccaa
