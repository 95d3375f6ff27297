/- Camels: all parts of a way, of the model. -/
import Derived.Test.YtgpbkjakmbmccaaCamP
import Derived.Test.YtgpbkjakmbmccaaApp
import Derived.Test.YtgpbkjakmbmccaaCam6
import Derived.Deep.RegionHeld3
import Derived.Deep.RegionHeldLaw
import Derived.Deep.DeepCutAuto
namespace Go.Proofs.Ytgpbkjakmbmccaa
open Go.ChangeShapes Go.WideShapes Go.ChangeAt Go.RowKit Go.Joins
set_option maxRecDepth 100000
set_option linter.unusedVariables false
set_option linter.unusedSimpArgs false

theorem cell_six_new (w : World) (a b c d e f : Value) (t : TypeId) : ∀ j u, [a, b, c, d, e, f][j]? = some u → (w.alloc (.cells #[a, b, c, d, e, f] t)).cell? ((⟨w.heap.size, 0, none⟩ : Addr).add j) = some u := by
  intro j u h
  match j with
  | 0 => simp at h; subst h; simp [go_sem]
  | 1 => simp at h; subst h; simp [go_sem]
  | 2 => simp at h; subst h; simp [go_sem]
  | 3 => simp at h; subst h; simp [go_sem]
  | 4 => simp at h; subst h; simp [go_sem]
  | 5 => simp at h; subst h; simp [go_sem]
  | n + 6 => simp at h
/-- caParts' own variables: the camel, where the part begins, the goods there, the result. -/
structure PartSt (w wr : World) (L E x y g h : Int) : Prop where
  c0 : wr.cell? ⟨w.heap.size, 0, none⟩ = some (.int .i64 L)
  c1 : wr.cell? ⟨w.heap.size, 1, none⟩ = some (.int .i64 E)
  a0 : wr.cell? ⟨w.heap.size + 1 + 1 + 1, 0, none⟩ = some (.int .i64 x)
  a1 : wr.cell? ⟨w.heap.size + 1 + 1 + 1, 1, none⟩ = some (.int .i64 y)
  b0 : wr.cell? ⟨w.heap.size + 1 + 1 + 1 + 1, 0, none⟩ = some (.int .i64 g)
  b1 : wr.cell? ⟨w.heap.size + 1 + 1 + 1 + 1, 1, none⟩ = some (.int .i64 h)
  r0 : wr.cell? ⟨w.heap.size + 1 + 1, 0, none⟩ = some (.int .i64 0)
  r1 : wr.cell? ⟨w.heap.size + 1 + 1, 1, none⟩ = some (.int .i64 0)
  fa0 : wr.frozen? ⟨w.heap.size + 1 + 1 + 1, 0, none⟩ = false
  fa1 : wr.frozen? ⟨w.heap.size + 1 + 1 + 1, 1, none⟩ = false
  fb0 : wr.frozen? ⟨w.heap.size + 1 + 1 + 1 + 1, 0, none⟩ = false
  fb1 : wr.frozen? ⟨w.heap.size + 1 + 1 + 1 + 1, 1, none⟩ = false
  fr0 : wr.frozen? ⟨w.heap.size + 1 + 1, 0, none⟩ = false
  fr1 : wr.frozen? ⟨w.heap.size + 1 + 1, 1, none⟩ = false
  hs : w.heap.size + 1 + 1 + 1 + 1 < wr.heap.size
  bel : Below w.heap.size w wr
theorem PartSt.later {w wr w' : World} {L E x y g h : Int} (H : PartSt w wr L E x y g h) (hb : Below wr.heap.size wr w') : PartSt w w' L E x y g h := by
  have hs := H.hs
  exact ⟨keepa hb (by omega) H.c0, keepa hb (by omega) H.c1, keepa hb (by omega) H.a0, keepa hb (by omega) H.a1, keepa hb (by omega) H.b0, keepa hb (by omega) H.b1, keepa hb (by omega) H.r0, keepa hb (by omega) H.r1,
    keepz hb (by omega) H.fa0, keepz hb (by omega) H.fa1, keepz hb (by omega) H.fb0, keepz hb (by omega) H.fb1, keepz hb (by omega) H.fr0, keepz hb (by omega) H.fr1, Nat.lt_of_lt_of_le hs hb.size, bstep H.bel hb⟩
theorem PartSt.grown {w wr w' : World} {L E x y g h : Int} {e size n : Nat} {v : Value} {xs : List Value} (H : PartSt w wr L E x y g h) (hg : wr.grownBy w' v.ownBlock) (hown : wr.ownsRow (w.heap.size + 1 + 1 + 1 + 1 + 1) e size v n xs) : PartSt w w' L E x y g h := by
  have hs := H.hs
  have ne : ∀ b, b < w.heap.size + 1 + 1 + 1 + 1 + 1 → some b ≠ v.ownBlock := fun b hb e => own_ne hown hb e.symm
  exact ⟨hg.cell H.c0 (ne _ (by first | (simp; done) | (simp; omega))), hg.cell H.c1 (ne _ (by first | (simp; done) | (simp; omega))), hg.cell H.a0 (ne _ (by first | (simp; done) | (simp; omega))), hg.cell H.a1 (ne _ (by first | (simp; done) | (simp; omega))), hg.cell H.b0 (ne _ (by first | (simp; done) | (simp; omega))), hg.cell H.b1 (ne _ (by first | (simp; done) | (simp; omega))), hg.cell H.r0 (ne _ (by first | (simp; done) | (simp; omega))), hg.cell H.r1 (ne _ (by first | (simp; done) | (simp; omega))),
    grown_frozen hg H.fa0 (by simp; omega) (ne _ (by first | (simp; done) | (simp; omega))), grown_frozen hg H.fa1 (by simp; omega) (ne _ (by first | (simp; done) | (simp; omega))), grown_frozen hg H.fb0 (by simp; omega) (ne _ (by first | (simp; done) | (simp; omega))), grown_frozen hg H.fb1 (by simp; omega) (ne _ (by first | (simp; done) | (simp; omega))), grown_frozen hg H.fr0 (by simp; omega) (ne _ (by first | (simp; done) | (simp; omega))), grown_frozen hg H.fr1 (by simp; omega) (ne _ (by first | (simp; done) | (simp; omega))),
    Nat.lt_of_lt_of_le hs hg.size, grown_bel H.bel hg hown (by omega)⟩
theorem PartSt.setA {w wr : World} {L E x y g h : Int} (H : PartSt w wr L E x y g h) (x' y' : Int) : PartSt w ((wr.setCell ⟨w.heap.size + 1 + 1 + 1, 0, none⟩ (.int .i64 x')).setCell ⟨w.heap.size + 1 + 1 + 1, 1, none⟩ (.int .i64 y')) L E x' y' g h := by
  obtain ⟨c0, c1, a0, a1, b0, b1, r0, r1, fa0, fa1, fb0, fb1, fr0, fr1, hs, bel⟩ := H
  exact ⟨by simp [go_sem, c0], by simp [go_sem, c1], by simp [go_sem, a0, a1, hs], by simp [go_sem, a0, a1, hs], by simp [go_sem, b0], by simp [go_sem, b1], by simp [go_sem, r0], by simp [go_sem, r1],
    by simp [go_sem, fa0], by simp [go_sem, fa1], by simp [go_sem, fb0], by simp [go_sem, fb1], by simp [go_sem, fr0], by simp [go_sem, fr1], by simpa using hs, bset (bset bel (by simp; omega) _) (by simp; omega) _⟩
theorem PartSt.setB {w wr : World} {L E x y g h : Int} (H : PartSt w wr L E x y g h) (x' y' : Int) : PartSt w ((wr.setCell ⟨w.heap.size + 1 + 1 + 1 + 1, 0, none⟩ (.int .i64 x')).setCell ⟨w.heap.size + 1 + 1 + 1 + 1, 1, none⟩ (.int .i64 y')) L E x y x' y' := by
  obtain ⟨c0, c1, a0, a1, b0, b1, r0, r1, fa0, fa1, fb0, fb1, fr0, fr1, hs, bel⟩ := H
  exact ⟨by simp [go_sem, c0], by simp [go_sem, c1], by simp [go_sem, a0], by simp [go_sem, a1], by simp [go_sem, b0, b1, hs], by simp [go_sem, b0, b1, hs], by simp [go_sem, r0], by simp [go_sem, r1],
    by simp [go_sem, fa0], by simp [go_sem, fa1], by simp [go_sem, fb0], by simp [go_sem, fb1], by simp [go_sem, fr0], by simp [go_sem, fr1], by simpa using hs, bset (bset bel (by simp; omega) _) (by simp; omega) _⟩
theorem PartSt.drew {w wr : World} {L E x y g h : Int} (H : PartSt w wr L E x y g h) : PartSt w wr.drew L E x y g h := H.later (bdrew (Below.refl _ _))
theorem PartSt.alloc {w wr : World} {L E x y g h : Int} (H : PartSt w wr L E x y g h) (o : Obj) : PartSt w (wr.alloc o) L E x y g h := H.later (balloc (Below.refl _ _) o)
end Go.Proofs.Ytgpbkjakmbmccaa
