/- A list that is read: its shape, later. -/
import Derived.Test.YtiafmojmanhdoaaRowG
namespace Go.Proofs.Ytiafmojmanhdoaa
open Go.ChangeShapes Go.WideShapes Go.ChangeAt Go.RowKit Go.Joins
set_option linter.unusedVariables false

/-- What a list that is read looks like. -/
theorem row_shape {α : Type} {m : Nat} {f : α → List Int} {w : World} {v : Value} {l : List α} (h : RowG m f w v l) : ∃ a c, v = .slice a l.length c ∧ l.length ≤ c ∧ c ≤ 9223372036854775807 := by
  rcases h with ⟨rfl, rfl⟩ | ⟨a, cap, rfl, hL⟩
  · exact ⟨none, 0, rfl, by simp, by simp⟩
  · exact ⟨some a, cap, rfl, hL.hlc, hL.hcap⟩
theorem rowG_below {α : Type} {m : Nat} {f : α → List Int} {w w' : World} {v : Value} {l : List α} (h : RowG m f w v l) (hb : Below w.heap.size w w') : RowG m f w' v l := by
  rcases h with ⟨rfl, rfl⟩ | ⟨a, cap, rfl, hL⟩
  · exact Or.inl ⟨rfl, rfl⟩
  · exact Or.inr ⟨a, cap, rfl, liesG_below hL hb⟩
end Go.Proofs.Ytiafmojmanhdoaa
