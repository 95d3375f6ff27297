/- A block of two cells that may be written: what an amount's result lies in. -/
import Derived.Test.YtgpbkjakmbmccaaCamM
namespace Go.Proofs.Ytgpbkjakmbmccaa
open Go.RowKit
set_option linter.unusedVariables false
set_option linter.unusedSimpArgs false

def Res8 (b : Nat) (w : World) : Prop := ∃ x y, w.cell? ⟨b, 0, none⟩ = some x ∧ w.cell? ⟨b, 1, none⟩ = some y ∧ w.frozen? ⟨b, 0, none⟩ = false ∧ w.frozen? ⟨b, 1, none⟩ = false ∧ b < w.heap.size
theorem Res8.later {b : Nat} {w w' : World} (h : Res8 b w) (hb : Below w.heap.size w w') : Res8 b w' := by
  obtain ⟨x, y, a1, a2, a3, a4, a5⟩ := h
  exact ⟨x, y, keepa hb a5 a1, keepa hb a5 a2, keepz hb a5 a3, keepz hb a5 a4, Nat.lt_of_lt_of_le a5 hb.size⟩
theorem Res8.drew {b : Nat} {w : World} (h : Res8 b w) : Res8 b w.drew := h.later (bdrew (Below.refl _ _))
theorem Res8.alloc {b : Nat} {w : World} (h : Res8 b w) (o : Obj) : Res8 b (w.alloc o) := h.later (balloc (Below.refl _ _) o)
theorem Res8.set {b : Nat} {w : World} (h : Res8 b w) (o : Nat) (v : Value) (ho : o < 2) : Res8 b (w.setCell ⟨b, o, none⟩ v) := by
  obtain ⟨x, y, a1, a2, a3, a4, a5⟩ := h
  have hc : o = 0 ∨ o = 1 := by omega
  rcases hc with rfl | rfl
  · exact ⟨v, y, by simp [go_sem, a1, a2, a5], by simp [go_sem, a1, a2, a5], by simp [go_sem, a3], by simp [go_sem, a4], by simpa using a5⟩
  · exact ⟨x, v, by simp [go_sem, a1, a2, a5], by simp [go_sem, a1, a2, a5], by simp [go_sem, a3], by simp [go_sem, a4], by simpa using a5⟩
theorem Res8.new (w : World) (x y : Value) (t : TypeId) : Res8 w.heap.size (w.alloc (.cells #[x, y] t)) :=
  ⟨x, y, by simp, by simp, by simp, by simp, by simp⟩
theorem Res8.newd (w : World) (x y : Value) (t : TypeId) : Res8 w.heap.size (w.drew.alloc (.cells #[x, y] t)) :=
  ⟨x, y, by simp [go_sem], by simp [go_sem], by simp [go_sem], by simp [go_sem], by simp⟩
end Go.Proofs.Ytgpbkjakmbmccaa
