/- Two boxes that are written. -/
import Derived.Test.YtgpbkjakmbmccaaRow
namespace Go.Proofs.Ytgpbkjakmbmccaa
open Go.ChangeShapes Go.WideShapes Go.ChangeAt Go.RowKit Go.Joins
set_option maxRecDepth 100000
set_option linter.unusedVariables false
set_option linter.unusedSimpArgs false

theorem two_boxes (w : World) (b c : Nat) (x0 x1 y0 y1 u0 u1 v0 v1 : Value) (o : Obj) (hb : b < w.heap.size) (hc : c < w.heap.size) (hne : b ≠ c) (a0 : w.cell? ⟨b, 0, none⟩ = some u0) (a1 : w.cell? ⟨b, 1, none⟩ = some u1) (c0 : w.cell? ⟨c, 0, none⟩ = some v0) (c1 : w.cell? ⟨c, 1, none⟩ = some v1)
    (f0 : w.frozen? ⟨b, 0, none⟩ = false) (f1 : w.frozen? ⟨b, 1, none⟩ = false) (g0 : w.frozen? ⟨c, 0, none⟩ = false) (g1 : w.frozen? ⟨c, 1, none⟩ = false) :
    ∀ V, V = (((((w.setCell ⟨b, 0, none⟩ x0).setCell ⟨b, 1, none⟩ x1).setCell ⟨c, 0, none⟩ y0).setCell ⟨c, 1, none⟩ y1).alloc o) →
      V.cell? ⟨b, 0, none⟩ = some x0 ∧ V.cell? ⟨b, 1, none⟩ = some x1 ∧ V.cell? ⟨c, 0, none⟩ = some y0 ∧ V.cell? ⟨c, 1, none⟩ = some y1 ∧
      V.frozen? ⟨b, 0, none⟩ = false ∧ V.frozen? ⟨b, 1, none⟩ = false ∧ V.frozen? ⟨c, 0, none⟩ = false ∧ V.frozen? ⟨c, 1, none⟩ = false ∧ b < V.heap.size ∧ c < V.heap.size := by
  rintro V rfl
  have hne2 : c ≠ b := fun e => hne e.symm
  have e1 : b ≠ w.heap.size := by omega
  have e2 : c ≠ w.heap.size := by omega
  refine ⟨?_, ?_, ?_, ?_, ?_, ?_, ?_, ?_, ?_, ?_⟩
  · simp [go_sem, a0, a1, c0, c1, f0, f1, g0, g1, hb, hc, hne, hne2, e1, e2]
  · simp [go_sem, a0, a1, c0, c1, f0, f1, g0, g1, hb, hc, hne, hne2, e1, e2]
  · simp [go_sem, a0, a1, c0, c1, f0, f1, g0, g1, hb, hc, hne, hne2, e1, e2]
  · simp [go_sem, a0, a1, c0, c1, f0, f1, g0, g1, hb, hc, hne, hne2, e1, e2]
  · simp [go_sem, a0, a1, c0, c1, f0, f1, g0, g1, hb, hc, hne, hne2, e1, e2]
  · simp [go_sem, a0, a1, c0, c1, f0, f1, g0, g1, hb, hc, hne, hne2, e1, e2]
  · simp [go_sem, a0, a1, c0, c1, f0, f1, g0, g1, hb, hc, hne, hne2, e1, e2]
  · simp [go_sem, a0, a1, c0, c1, f0, f1, g0, g1, hb, hc, hne, hne2, e1, e2]
  · simp; omega
  · simp; omega
end Go.Proofs.Ytgpbkjakmbmccaa
