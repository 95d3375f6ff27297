/- Answers that are a list and a bool. -/
import Derived.Test.YtiafmojmanhdoaaRow
namespace Go.Proofs.Ytiafmojmanhdoaa
open Go.ChangeShapes Go.WideShapes Go.ChangeAt Go.RowKit Go.Joins
set_option linter.unusedVariables false
set_option linter.unusedSimpArgs false

/-- A call's answer: a list that it owns, and a bool. -/
def AnsG {α : Type} (ty m : Nat) (f : α → List Int) (l : List α) (b : Bool) (w : World) (e : Ending) (w' : World) : Prop :=
  ∃ v, e = .returned (.tuple #[v, .bool b]) ∧ w'.ownsRow w.heap.size ty m v l.length (cellsG f l) ∧ Below w.heap.size w w'
def EndN (b : Bool) (w : World) (e : Ending) (w' : World) : Prop := ∃ a c, e = .returned (.tuple #[.slice a 0 c, .bool b]) ∧ Below w.heap.size w w'
def EndG {α : Type} (ty m : Nat) (f : α → List Int) (l : List α) (b : Bool) (w : World) (e : Ending) (w' : World) : Prop :=
  ∃ g c, e = .returned (.tuple #[.slice (some ⟨g, 0, none⟩) l.length c, .bool b]) ∧ w'.ownsRow w.heap.size ty m (.slice (some ⟨g, 0, none⟩) l.length c) l.length (cellsG f l) ∧ Below w.heap.size w w'
theorem ans_nil {α : Type} {ty m : Nat} {f : α → List Int} {l : List α} {b : Bool} (h : l = []) {w : World} {e : Ending} {w' : World} (hp : AnsG ty m f l b w e w') : EndN b w e w' := by
  obtain ⟨v, rfl, hown, hb⟩ := hp
  subst h
  obtain ⟨a, c, rfl⟩ := owns_shape hown
  exact ⟨a, c, rfl, hb⟩
theorem ans_some {α : Type} {ty m : Nat} {f : α → List Int} {l : List α} {b : Bool} (h : l ≠ []) {w : World} {e : Ending} {w' : World} (hp : AnsG ty m f l b w e w') : EndG ty m f l b w e w' := by
  obtain ⟨v, rfl, hown, hb⟩ := hp
  have hown' := hown
  obtain ⟨_, hs⟩ := hown
  rcases hs with ⟨_, h0⟩ | ⟨g', cap, cur, rfl, _⟩
  · exact absurd (List.length_eq_zero_iff.1 h0) h
  · exact ⟨g', cap, rfl, hown', hb⟩
theorem ans_owns {α : Type} {ty m : Nat} {f : α → List Int} {l : List α} {b : Bool} {w w' : World} {v : Value} {n : Nat} (hn : n = l.length) (hown : w'.ownsRow w.heap.size ty m v n (cellsG f l)) (hb : Below w.heap.size w w') :
    AnsG ty m f l b w (.returned (.tuple #[v, .bool b])) w' := ⟨v, rfl, hn ▸ hown, hb⟩
end Go.Proofs.Ytiafmojmanhdoaa
