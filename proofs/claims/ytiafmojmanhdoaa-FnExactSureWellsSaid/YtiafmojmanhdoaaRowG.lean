/- A slice that reads as a list. -/
import Derived.Test.YtiafmojmanhdoaaRow
namespace Go.Proofs.Ytiafmojmanhdoaa
open Go.RowKit
set_option maxRecDepth 100000
set_option linter.unusedVariables false
set_option linter.unusedSimpArgs false

/-- A slice that reads as l: none, or one that lies somewhere. -/
def RowG {α : Type} (m : Nat) (f : α → List Int) (w : World) (v : Value) (l : List α) : Prop := (v = .slice none 0 0 ∧ l = []) ∨ ∃ (a : Addr) (cap : Nat), v = .slice (some a) l.length cap ∧ LiesG m f w a cap l
theorem rowG_own {α : Type} {m : Nat} {f : α → List Int} (hm : ∀ x, (f x).length = m) {w : World} {base e : Nat} {v : Value} {l : List α} (h : w.ownsRow base e m v l.length (cellsG f l))
    (hbd : ∀ p ∈ l, ∀ y ∈ f p, -9223372036854775808 ≤ y ∧ y ≤ 9223372036854775807) : RowG m f w v l := by
  have h' := h
  obtain ⟨_, hs⟩ := h
  rcases hs with ⟨hv, hn⟩ | ⟨g, cap, cur, hv, _⟩
  · exact Or.inl ⟨hv, List.length_eq_zero_iff.1 hn⟩
  · subst hv
    exact Or.inr ⟨_, cap, rfl, liesG_own hm h' hbd⟩
end Go.Proofs.Ytiafmojmanhdoaa
