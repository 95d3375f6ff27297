/- Camels: LeftAt, FarthestWith: contracts. -/
import Derived.Test.YtgmgifgbalcngaaCamL
import Derived.Deep.RegionHeld3
import Derived.Deep.DeepCutAuto
namespace Go.Proofs.Ytgmgifgbalcngaa
open Go.ChangeShapes Go.WideShapes Go.ChangeAt Go.RowKit Go.Joins
set_option maxRecDepth 100000
set_option linter.unusedVariables false
set_option linter.unusedSimpArgs false

/-- The farthest place, told by the model and by the program. -/
theorem far_low {L E d n : Int} {t : Nat} (h : CamIn L E d n t) : lowB (paX L E d n t t) (paY L E d n t t) = lowB (wayWithX L E n d 0 1) (wayWithM L E n d 0 1) ∧ lowN (paX L E d n t t) (paY L E d n t t) = lowN (wayWithX L E n d 0 1) (wayWithM L E n d 0 1) ∧ lowD (paX L E d n t t) (paY L E d n t t) = lowD (wayWithX L E n d 0 1) (wayWithM L E n d 0 1) := by
  obtain ⟨l1, l2⟩ := h.ld
  have hdE := h.dE
  have hr := rd_is (paA L d n t t) (3465 * (d * E)) (by omega)
  have hY := (pa_bd h t (Nat.le_refl _)).2.2.1
  have e0 : dS (L * d) 0 = 0 := by
    have h0 := dS_whole (L * d) 0 (by omega) l1
    simp [dC] at h0
    exact h0
  have eA : paA L d n t t = dS (L * d) n := by
    have ht := h.ht.a
    unfold paA paU
    rw [if_neg (by omega), show (t : Int) - t = 0 by omega, Int.zero_mul, e0]; omega
  have eX : wayWithX L E n d 0 1 = dS (L * d) n := by
    unfold wayWithX
    rw [Int.mul_one, Int.one_mul, Int.mul_zero, e0]; omega
  have eM : wayWithM L E n d 0 1 = 3465 * (d * E) := by unfold wayWithM; rw [Int.mul_one]; ac_rfl
  rw [eX, eM, ← eA]
  have hs := lw_scale (gi (paA L d n t t) (3465 * (d * E))) (paX L E d n t t) (paY L E d n t t) (by have := hr.g1; omega) hY
  have f1 : gi (paA L d n t t) (3465 * (d * E)) * paX L E d n t t = paA L d n t t := hr.n1.symm
  have f2 : gi (paA L d n t t) (3465 * (d * E)) * paY L E d n t t = 3465 * (d * E) := hr.d1.symm
  rw [f1, f2] at hs
  exact ⟨hs.1.symm, hs.2.1.symm, hs.2.2.symm⟩
theorem pl01 : plB 0 1 = true := by decide
/-- The boxes of a camel and of goods, and the result's block. -/
structure Bx (w W : World) (L E n d : Int) : Prop where
  c1 : W.cell? ⟨w.heap.size, 0, none⟩ = some (.int .i64 L)
  c2 : W.cell? ⟨w.heap.size, 1, none⟩ = some (.int .i64 E)
  c3 : W.cell? ⟨w.heap.size + 1, 0, none⟩ = some (.int .i64 n)
  c4 : W.cell? ⟨w.heap.size + 1, 1, none⟩ = some (.int .i64 d)
  res : HasRes (w.heap.size + 1 + 1) W
  hs : w.heap.size + 1 + 1 < W.heap.size
  bel : Below w.heap.size w W
theorem Bx.later {w W W' : World} {L E n d : Int} (H : Bx w W L E n d) (hb : Below W.heap.size W W') : Bx w W' L E n d := by
  have hs := H.hs
  exact ⟨keepa hb (by omega) H.c1, keepa hb (by omega) H.c2, keepa hb (by omega) H.c3, keepa hb (by omega) H.c4, H.res.later hb, Nat.lt_of_lt_of_le hs hb.size, bstep H.bel hb⟩
theorem Bx.drew {w W : World} {L E n d : Int} (H : Bx w W L E n d) : Bx w W.drew L E n d := H.later (bdrew (Below.refl _ _))
theorem Bx.set {w W : World} {L E n d : Int} (H : Bx w W L E n d) (u v : Value) : Bx w ((W.setCell ⟨w.heap.size + 1 + 1, 0, none⟩ u).setCell ⟨w.heap.size + 1 + 1, 1, none⟩ v) L E n d := by
  obtain ⟨c1, c2, c3, c4, hr, hs, bel⟩ := H
  exact ⟨by simp [go_sem, c1], by simp [go_sem, c2], by simp [go_sem, c3], by simp [go_sem, c4], (hr.set 0 _ (by omega)).set 1 _ (by omega), by simpa using hs, bset (bset bel (by simp; omega) _) (by simp; omega) _⟩
end Go.Proofs.Ytgmgifgbalcngaa
