/- What laws on lists share: answers told from an earlier world on. -/
import Derived.Test.YtiafmojmanhdoaaAns
import Derived.Test.YtiafmojmanhdoaaRowG
namespace Go.Proofs.Ytiafmojmanhdoaa
open Go.ChangeShapes Go.WideShapes Go.ChangeAt Go.RowKit Go.Joins
set_option linter.unusedVariables false

theorem ansg_at {α : Type} {f : FuncId} {args : Array Value} {ty m : Nat} {F : α → List Int} {l : List α} {b : Bool} {B W : World} (hB : Below B.heap.size B W) (h : Calls Try.prog f args W (AnsG ty m F l b W)) :
    Calls Try.prog f args W fun e w' => ∃ v, e = .returned (.tuple #[v, .bool b]) ∧ w'.ownsRow B.heap.size ty m v l.length (cellsG F l) ∧ Below B.heap.size B w' := by
  refine h.mono ?_
  rintro e w' ⟨v, rfl, hown, hb⟩
  exact ⟨v, rfl, own_mono hown hB.size, bstep hB hb⟩
theorem copy_at {α : Type} {f : FuncId} {args : Array Value} {ty m : Nat} {F : α → List Int} {l : List α} {B W : World} (hB : Below B.heap.size B W) (h : Calls Try.prog f args W (EndCopyG ty m F l W)) :
    Calls Try.prog f args W fun e w' => ∃ g, e = .returned (.slice (some ⟨g, 0, none⟩) l.length l.length) ∧ w'.ownsRow B.heap.size ty m (.slice (some ⟨g, 0, none⟩) l.length l.length) l.length (cellsG F l) ∧ Below B.heap.size B w' := by
  refine h.mono ?_
  rintro e w' ⟨g, rfl, hown, hb⟩
  exact ⟨g, rfl, own_mono hown hB.size, bstep hB hb⟩
/-- Two rows, the one made when the other was there. -/
theorem own_apart {w w2 : World} {b1 b2 e1 e2 s1 s2 n1 n2 : Nat} {v1 v2 : Value} {xs1 xs2 : List Value} (h1 : w.ownsRow b1 e1 s1 v1 n1 xs1) (h2 : w2.ownsRow b2 e2 s2 v2 n2 xs2) (hb : w2.heap.size ≤ b1) : v1.ownBlock = none ∨ v1.ownBlock ≠ v2.ownBlock := by
  cases h : v1.ownBlock with
  | none => exact Or.inl rfl
  | some g => exact Or.inr (fun e => by
      have := (h1.lt g h).1
      have := (h2.lt g e.symm).2
      omega)
theorem own_apart' {w w2 : World} {b1 b2 e1 e2 s1 s2 n1 n2 : Nat} {v1 v2 : Value} {xs1 xs2 : List Value} (h1 : w.ownsRow b1 e1 s1 v1 n1 xs1) (h2 : w2.ownsRow b2 e2 s2 v2 n2 xs2) (hb : w2.heap.size ≤ b1) : v2.ownBlock = none ∨ v2.ownBlock ≠ v1.ownBlock := by
  cases h : v2.ownBlock with
  | none => exact Or.inl rfl
  | some g => exact Or.inr (fun e => by
      have := (h2.lt g h).2
      have := (h1.lt g e.symm).1
      omega)
end Go.Proofs.Ytiafmojmanhdoaa
