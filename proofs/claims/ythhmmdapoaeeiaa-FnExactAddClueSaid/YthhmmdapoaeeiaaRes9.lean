/- A block of two cells that may be written: what a result of two cells lies in. -/
import Derived.Test.YthhmmdapoaeeiaaApp
namespace Go.Proofs.Ythhmmdapoaeeiaa
open Go.RowKit
set_option linter.unusedVariables false
set_option linter.unusedSimpArgs false

def Res9 (b : Nat) (w : World) : Prop := ∃ x y, w.cell? ⟨b, 0, none⟩ = some x ∧ w.cell? ⟨b, 1, none⟩ = some y ∧ w.frozen? ⟨b, 0, none⟩ = false ∧ w.frozen? ⟨b, 1, none⟩ = false ∧ b < w.heap.size
theorem Res9.later {b : Nat} {w w' : World} (h : Res9 b w) (hb : Below w.heap.size w w') : Res9 b w' := by
  obtain ⟨x, y, a1, a2, a3, a4, a5⟩ := h
  exact ⟨x, y, keepa hb a5 a1, keepa hb a5 a2, keepf hb a5 a3, keepf hb a5 a4, Nat.lt_of_lt_of_le a5 hb.size⟩
theorem Res9.drew {b : Nat} {w : World} (h : Res9 b w) : Res9 b w.drew := h.later (bdrew (Below.refl _ _))
theorem Res9.alloc {b : Nat} {w : World} (h : Res9 b w) (o : Obj) : Res9 b (w.alloc o) := h.later (balloc (Below.refl _ _) o)
theorem Res9.set {b : Nat} {w : World} (h : Res9 b w) (o : Nat) (v : Value) (ho : o < 2) : Res9 b (w.setCell ⟨b, o, none⟩ v) := by
  obtain ⟨x, y, a1, a2, a3, a4, a5⟩ := h
  have hc : o = 0 ∨ o = 1 := by omega
  rcases hc with rfl | rfl
  · exact ⟨v, y, by simp [go_sem, a1, a2, a5], by simp [go_sem, a1, a2, a5], by simp [go_sem, a3], by simp [go_sem, a4], by simpa using a5⟩
  · exact ⟨x, v, by simp [go_sem, a1, a2, a5], by simp [go_sem, a1, a2, a5], by simp [go_sem, a3], by simp [go_sem, a4], by simpa using a5⟩
theorem Res9.grown {b : Nat} {w w' : World} (h : Res9 b w) {row : Option Nat} (hg : w.grownBy w' row) (hne : some b ≠ row) : Res9 b w' := by
  obtain ⟨x, y, a1, a2, a3, a4, a5⟩ := h
  exact ⟨x, y, hg.cell a1 hne, hg.cell a2 hne, grown_frozen hg a3 a5 hne, grown_frozen hg a4 a5 hne, Nat.lt_of_lt_of_le a5 hg.size⟩
theorem Res9.new (w : World) (x y : Value) (t : TypeId) : Res9 w.heap.size (w.alloc (.cells #[x, y] t)) :=
  ⟨x, y, by simp, by simp, by simp, by simp, by simp⟩
end Go.Proofs.Ythhmmdapoaeeiaa
