/- A list that lies somewhere, read cell by cell. -/
import Derived.Test.YtiafmojmanhdoaaRowG
namespace Go.Proofs.Ytiafmojmanhdoaa
open Go.ChangeShapes Go.WideShapes Go.ChangeAt Go.RowKit Go.Joins
set_option maxRecDepth 100000
set_option linter.unusedVariables false
set_option linter.unusedSimpArgs false

theorem liesG_cells {α : Type} {m : Nat} {f : α → List Int} (hm : ∀ x, (f x).length = m) (h0 : 0 < m) {w : World} {a : Addr} {cap : Nat} {l : List α} (h : LiesG m f w a cap l) :
    ∀ j u, (cellsG f l)[j]? = some u → w.cell? (a.add j) = some u := by
  intro k u hu
  have hk : k < l.length * m := by have := (List.getElem?_eq_some_iff.1 hu).1; rw [cellsG_len hm] at this; exact this
  have hi : k / m < l.length := (Nat.div_lt_iff_lt_mul h0).2 hk
  have hx : l[k / m]? = some l[k / m] := List.getElem?_eq_getElem hi
  have hj : k % m < (f l[k / m]).length := by rw [hm]; exact Nat.mod_lt _ h0
  have hy := List.getElem?_eq_getElem hj
  have e : k / m * m + k % m = k := by have := Nat.div_add_mod k m; rw [Nat.mul_comm] at this; exact this
  have h2 := cellsG_get hm l _ _ hx _ _ hy
  have h3 := h.hcell _ _ hx _ _ hy
  rw [e] at h2 h3
  rw [h2] at hu
  injection hu with hu
  rw [← hu]; exact h3
theorem cellsG_one {α : Type} (f : α → List Int) (l : List α) : ∀ u ∈ cellsG f l, u.oneCell' = true := by
  intro u hu
  simp only [cellsG, List.mem_flatMap, List.mem_map] at hu
  obtain ⟨x, _, y, _, rfl⟩ := hu
  rfl
theorem cellsG_append {α : Type} (f : α → List Int) (l k : List α) : cellsG f (l ++ k) = cellsG f l ++ cellsG f k := by simp [cellsG]
/-- What the call answers: a list that it owns. -/
def EndL {α : Type} (ty m : Nat) (f : α → List Int) (l : List α) (w : World) (e : Ending) (w' : World) : Prop :=
  ∃ v, e = .returned v ∧ w'.ownsRow w.heap.size ty m v l.length (cellsG f l) ∧ Below w.heap.size w w'
/-- A part of a list that lies somewhere. -/
theorem liesG_drop {α : Type} {m : Nat} {f : α → List Int} {w : World} {a : Addr} {cap : Nat} {l : List α} (h : LiesG m f w a cap l) (k : Nat) (hk : k ≤ l.length) : LiesG m f w (a.add (k * m)) (cap - k) (l.drop k) := by
  refine ⟨by rw [List.length_drop]; have := h.hlc; omega, by have := h.hcap; omega, fun i p hp j y hy => ?_, fun p hp => h.hbd p (List.mem_of_mem_drop hp)⟩
  rw [List.getElem?_drop] at hp
  have h3 := h.hcell _ p hp j y hy
  rw [Deep.add_add]
  have e : k * m + (i * m + j) = (k + i) * m + j := by rw [Nat.add_mul]; omega
  rw [e]; exact h3
theorem liesG_take {α : Type} {m : Nat} {f : α → List Int} {w : World} {a : Addr} {cap : Nat} {l : List α} (h : LiesG m f w a cap l) (k : Nat) (hk : k ≤ l.length) : LiesG m f w a cap (l.take k) := by
  refine ⟨by rw [List.length_take]; have := h.hlc; omega, h.hcap, fun i p hp j y hy => ?_, fun p hp => h.hbd p (List.mem_of_mem_take hp)⟩
  rw [List.getElem?_take] at hp
  split at hp
  · exact h.hcell _ p hp j y hy
  · cases hp
end Go.Proofs.Ytiafmojmanhdoaa
