/- Camels: what the callers of caParts take: the row of parts, a part in a variable. -/
import Derived.Test.YtgpbkjakmbmccaaCam8
namespace Go.Proofs.Ytgpbkjakmbmccaa
open Go.ChangeShapes Go.WideShapes Go.ChangeAt Go.RowKit Go.Joins
set_option maxRecDepth 100000
set_option linter.unusedVariables false
set_option linter.unusedSimpArgs false

theorem liesG_set {α : Type} {m : Nat} {f : α → List Int} {w : World} {a : Addr} {cap : Nat} {l : List α} (h : LiesG m f w a cap l) {p : Addr} (hne : a.block ≠ p.block) (u : Value) : LiesG m f (w.setCell p u) a cap l := by
  refine ⟨h.hlc, h.hcap, fun i q hq j y hy => ?_, h.hbd⟩
  rw [← h.hcell i q hq j y hy]
  unfold World.cell?
  rw [Below.heap_setCell w p u _ (by rw [add_block]; exact hne)]
theorem liesG_alloc {α : Type} {m : Nat} {f : α → List Int} {w : World} {a : Addr} {cap : Nat} {l : List α} (h : LiesG m f w a cap l) (o : Obj) : LiesG m f (w.alloc o) a cap l := liesG_below h (balloc (Below.refl _ _) o)
theorem liesG_drew {α : Type} {m : Nat} {f : α → List Int} {w : World} {a : Addr} {cap : Nat} {l : List α} (h : LiesG m f w a cap l) : LiesG m f w.drew a cap l := liesG_below h (bdrew (Below.refl _ _))
theorem parts_hbd {L E d n : Int} {t : Nat} (H : CamIn L E d n t) : ∀ p ∈ partsP L E d n t t, ∀ y ∈ fPart p, -9223372036854775808 ≤ y ∧ y ≤ 9223372036854775807 := by
  intro p hp y hy
  unfold partsP at hp
  obtain ⟨i, hi, rfl⟩ := List.mem_map.1 hp
  have hi := List.mem_range.1 hi
  obtain ⟨x0, x1, y0, y1⟩ := pa_bd H i (by omega)
  obtain ⟨g0, g1, h1, h2, r1, r2, en0, en1, f0, f1, m0, u1, u2⟩ := pa_b H i (t - 1 - i) (by omega)
  simp only [fPart, partV, List.mem_cons, List.not_mem_nil, or_false] at hy
  rcases hy with rfl | rfl | rfl | rfl | rfl | rfl <;> omega
/-- Six cells of a variable. -/
structure Six (w : World) (b : Nat) (x y g h r e : Int) : Prop where
  c0 : w.cell? ⟨b, 0, none⟩ = some (.int .i64 x)
  c1 : w.cell? ⟨b, 1, none⟩ = some (.int .i64 y)
  c2 : w.cell? ⟨b, 2, none⟩ = some (.int .i64 g)
  c3 : w.cell? ⟨b, 3, none⟩ = some (.int .i64 h)
  c4 : w.cell? ⟨b, 4, none⟩ = some (.int .i64 r)
  c5 : w.cell? ⟨b, 5, none⟩ = some (.int .i64 e)
  f0 : w.frozen? ⟨b, 0, none⟩ = false
  f1 : w.frozen? ⟨b, 1, none⟩ = false
  f2 : w.frozen? ⟨b, 2, none⟩ = false
  f3 : w.frozen? ⟨b, 3, none⟩ = false
  f4 : w.frozen? ⟨b, 4, none⟩ = false
  f5 : w.frozen? ⟨b, 5, none⟩ = false
  hs : b < w.heap.size
theorem Six.later {w w' : World} {b : Nat} {x y g h r e : Int} (H : Six w b x y g h r e) (hb : Below w.heap.size w w') : Six w' b x y g h r e := by
  have hs := H.hs
  exact ⟨keepa hb hs H.c0, keepa hb hs H.c1, keepa hb hs H.c2, keepa hb hs H.c3, keepa hb hs H.c4, keepa hb hs H.c5, keepz hb hs H.f0, keepz hb hs H.f1, keepz hb hs H.f2, keepz hb hs H.f3, keepz hb hs H.f4, keepz hb hs H.f5, Nat.lt_of_lt_of_le hs hb.size⟩
theorem Six.set {w : World} {b : Nat} {x y g h r e : Int} (H : Six w b x y g h r e) (x' y' g' h' r' e' : Int) : Six ((((((w.setCell ⟨b, 0, none⟩ (.int .i64 x')).setCell ⟨b, 1, none⟩ (.int .i64 y')).setCell ⟨b, 2, none⟩ (.int .i64 g')).setCell ⟨b, 3, none⟩ (.int .i64 h')).setCell ⟨b, 4, none⟩ (.int .i64 r')).setCell ⟨b, 5, none⟩ (.int .i64 e')) b x' y' g' h' r' e' := by
  obtain ⟨c0, c1, c2, c3, c4, c5, f0, f1, f2, f3, f4, f5, hs⟩ := H
  exact ⟨by simp [go_sem, c0, hs], by simp [go_sem, c1, hs], by simp [go_sem, c2, hs], by simp [go_sem, c3, hs], by simp [go_sem, c4, hs], by simp [go_sem, c5, hs],
    by simp [go_sem, f0], by simp [go_sem, f1], by simp [go_sem, f2], by simp [go_sem, f3], by simp [go_sem, f4], by simp [go_sem, f5], by simpa using hs⟩
theorem low_neg (X M : Int) (h : X < 0) : lowB X M = false ∧ lowN X M = 0 ∧ lowD X M = 0 := by
  have e : lowB X M = false := by unfold lowB; simp; omega
  exact ⟨e, by simp [lowN, e], by simp [lowD, e]⟩
theorem left_neg (L E d n p q : Int) (h1 : 1 ≤ L) (h2 : 1 ≤ d) (h3 : 1 ≤ q) (h : dS (L * (d * q)) (q * n) - d * 3465 * p * E < 0) : leftAtX L E n d p q < 0 := by
  have := Int.mul_pos (show 0 < L by omega) (Int.mul_pos (show 0 < d by omega) (show 0 < q by omega))
  unfold leftAtX
  rw [eS_neg _ _ (by omega) (by omega)]
  exact h
/-- The cells of the i-th part, as a walk asks for them. -/
theorem part_cells {L E d n : Int} {t : Nat} {w : World} {a : Addr} {cap : Nat} (h : LiesG 6 fPart w a cap (partsP L E d n t t)) (i : Nat) (hi : i < t) :
    w.cell? (a.add (i * 6)) = some (.int .i64 (paX L E d n t i)) ∧ w.cell? ⟨(a.add (i * 6)).block, (a.add (i * 6)).off + 1, none⟩ = some (.int .i64 (paY L E d n t i)) ∧ w.cell? ⟨(a.add (i * 6)).block, (a.add (i * 6)).off + 2, none⟩ = some (.int .i64 (paG L n t i)) ∧
      w.cell? ⟨(a.add (i * 6)).block, (a.add (i * 6)).off + 3, none⟩ = some (.int .i64 (paH d i)) ∧ w.cell? ⟨(a.add (i * 6)).block, (a.add (i * 6)).off + 4, none⟩ = some (.int .i64 (paR E t i)) ∧ w.cell? ⟨(a.add (i * 6)).block, (a.add (i * 6)).off + 5, none⟩ = some (.int .i64 (((t : Int) - i - 1) * L)) := by
  have hc := h.hcell i _ (partsP_get L E d n t t i hi)
  have e0 := hc 0 (paX L E d n t i) rfl
  have e1 := hc 1 (paY L E d n t i) rfl
  have e2 := hc 2 (paG L n t i) rfl
  have e3 := hc 3 (paH d i) rfl
  have e4 := hc 4 (paR E t i) rfl
  have e5 := hc 5 (((t : Int) - i - 1) * L) rfl
  rw [← Deep.add_add] at e1 e2 e3 e4 e5
  rw [Nat.add_zero] at e0
  exact ⟨e0, e1, e2, e3, e4, e5⟩
theorem add_zero0 (g k : Nat) : (⟨g, 0, none⟩ : Addr).add k = ⟨g, k, none⟩ := by
  unfold Addr.add
  split <;> simp_all
theorem part_cells0 {L E d n : Int} {t : Nat} {w : World} {g cap : Nat} (h : LiesG 6 fPart w ⟨g, 0, none⟩ cap (partsP L E d n t t)) (i : Nat) (hi : i < t) :
    w.cell? ⟨g, i * 6, none⟩ = some (.int .i64 (paX L E d n t i)) ∧ w.cell? ⟨g, i * 6 + 1, none⟩ = some (.int .i64 (paY L E d n t i)) ∧ w.cell? ⟨g, i * 6 + 2, none⟩ = some (.int .i64 (paG L n t i)) ∧
      w.cell? ⟨g, i * 6 + 3, none⟩ = some (.int .i64 (paH d i)) ∧ w.cell? ⟨g, i * 6 + 4, none⟩ = some (.int .i64 (paR E t i)) ∧ w.cell? ⟨g, i * 6 + 5, none⟩ = some (.int .i64 (((t : Int) - i - 1) * L)) := by
  have := part_cells h i hi
  simp only [add_zero0] at this
  exact this
end Go.Proofs.Ytgpbkjakmbmccaa
