/- The door of trials: the closure that recovers. -/
import Derived.Test.YthhmmdapoaeeiaaPzT
import Derived.Tactics
import Derived.Tactics2
import Derived.Defers
import Derived.Recover
import Derived.Laws.Pointers
import Derived.Deep.RegionHeld3
import Derived.Deep.DeepCutAuto
namespace Go.Proofs.Ythhmmdapoaeeiaa
open Go.ChangeShapes Go.WideShapes Go.ChangeAt Go.RowKit Go.Joins
set_option maxRecDepth 100000
set_option linter.unusedVariables false
set_option linter.unusedSimpArgs false


theorem ta_yes (v : Value) (w : World) : (Instr.typeAssert (.iface 25 v) 20 25 true).run Try.prog w = .ok (.tuple #[v, .bool true]) w := by
  simp [Instr.typeAssert, go_sem, Try.underlying25]
theorem ta_nil (w : World) : (Instr.typeAssert .nilIface 20 25 true).run Try.prog w = .ok (.tuple #[.agg #[.int .i64 0, .int .i64 0, .int .i64 0], .bool false]) w := by
  simp [Instr.typeAssert, go_sem, Try.underlying25]
set_option maxHeartbeats 1600000 in
theorem door_panicking (P Q : Nat) (sa : Option Addr) (n c : Nat) (y : Bool) (k a b : Int) (older : List PanicEntry) (w : World) (hc : w.cell? ⟨P, 0, none⟩ = some (.slice sa n c)) (hz : w.frozen? ⟨P, 0, none⟩ = false) (hc2 : w.cell? ⟨Q, 0, none⟩ = some (.bool y)) (hz2 : w.frozen? ⟨Q, 0, none⟩ = false) (hne : P ≠ Q) :
    CallsD Try.prog 34 #[.pointer (some ⟨P, 0, none⟩), .pointer (some ⟨Q, 0, none⟩)] (.panicking ({ v := .iface 25 (.agg #[.int .i64 k, .int .i64 a, .int .i64 b]), recovered := false } :: older)) w fun e u' w' =>
      e = .returned (.tuple #[]) ∧ u' = .panicking ({ v := .iface 25 (.agg #[.int .i64 k, .int .i64 a, .int .i64 b]), recovered := true } :: older) ∧ w' = ((w.alloc (.cells #[.int .i64 k, .int .i64 a, .int .i64 b] 25)).setCell ⟨P, 0, none⟩ (.slice none 0 0)).setCell ⟨Q, 0, none⟩ (.bool false) := by
  have hp : P < w.heap.size := cell_lt hc
  have hq : Q < w.heap.size := cell_lt hc2
  have e1 : (w.alloc (.cells #[.int .i64 k, .int .i64 a, .int .i64 b] 25)).cell? ⟨P, 0, none⟩ = some (.slice sa n c) := by rw [World.cell?_alloc_lt _ _ _ hp]; exact hc
  have e2 : (w.alloc (.cells #[.int .i64 k, .int .i64 a, .int .i64 b] 25)).frozen? ⟨P, 0, none⟩ = false := by rw [World.frozen?_alloc_old _ _ _ (by simp; omega)]; exact hz
  have e3 : (w.alloc (.cells #[.int .i64 k, .int .i64 a, .int .i64 b] 25)).cell? ⟨Q, 0, none⟩ = some (.bool y) := by rw [World.cell?_alloc_lt _ _ _ hq]; exact hc2
  have e4 : (w.alloc (.cells #[.int .i64 k, .int .i64 a, .int .i64 b] 25)).frozen? ⟨Q, 0, none⟩ = false := by rw [World.frozen?_alloc_old _ _ _ (by simp; omega)]; exact hz2
  have e5 : ((w.alloc (.cells #[.int .i64 k, .int .i64 a, .int .i64 b] 25)).setCell ⟨P, 0, none⟩ (.slice none 0 0)).cell? ⟨Q, 0, none⟩ = some (.bool y) := by rw [World.cell?_setCell_far _ _ _ _ (by simpa using hne)]; exact e3
  refine callsD_of_wpS Try.func34 rfl fun c₀ cs hu => ?_
  apply wpS_seq
  apply wpS_region
  simp [wpOpsS, go_sem, recoverD, hu, Try.ntmps34, Exit.thenS, ta_yes]
  apply wpS_seq
  apply wpS_region
  simp [wpOpsS, go_sem, Exit.thenS]
  refine wpS_cond (t := true) (by simp [Act.eval, Array.replicate]) ?_
  simp only [if_true]
  apply wpS_region
  simp [wpOpsS, go_sem, e1, e2, e4, e5, bodyPostS, results, Try.results34]
set_option maxHeartbeats 1600000 in
theorem door_idle (P Q : Nat) (w : World) :
    CallsD Try.prog 34 #[.pointer (some ⟨P, 0, none⟩), .pointer (some ⟨Q, 0, none⟩)] .returning w fun e u' w' => e = .returned (.tuple #[]) ∧ u' = .returning ∧ w' = w.alloc (.cells #[.int .i64 0, .int .i64 0, .int .i64 0] 25) := by
  refine callsD_of_wpS Try.func34 rfl fun c₀ cs hu => ?_
  apply wpS_seq
  apply wpS_region
  simp [wpOpsS, go_sem, recoverD, hu, Try.ntmps34, Exit.thenS, ta_nil]
  apply wpS_seq
  apply wpS_region
  simp [wpOpsS, go_sem, Exit.thenS]
  refine wpS_cond (t := false) (by simp [Act.eval, Array.replicate]) ?_
  simp only [Bool.false_eq_true, if_false]
  refine wpS_of_wp (wp_skip ?_)
  cases c₀
  simp_all [bodyPostS, results, Try.results34]
theorem door_pan (w0 : World) (P Q : Nat) (sa : Option Addr) (n c : Nat) (y : Bool) (k a b : Int) (w : World) (hc : w.cell? ⟨P, 0, none⟩ = some (.slice sa n c)) (hz : w.frozen? ⟨P, 0, none⟩ = false) (hc2 : w.cell? ⟨Q, 0, none⟩ = some (.bool y)) (hz2 : w.frozen? ⟨Q, 0, none⟩ = false) (hne : P ≠ Q) (hB : Below w0.heap.size w0 w) (hP : w0.heap.size ≤ P) (hQ : w0.heap.size ≤ Q) :
    CallsD Try.prog 34 #[.pointer (some ⟨P, 0, none⟩), .pointer (some ⟨Q, 0, none⟩)] (.panicking ({ v := .iface 25 (.agg #[.int .i64 k, .int .i64 a, .int .i64 b]), recovered := false } :: [])) w fun e u' w' =>
      e = .returned (.tuple #[]) ∧ u' = .panicking ({ v := .iface 25 (.agg #[.int .i64 k, .int .i64 a, .int .i64 b]), recovered := true } :: []) ∧ w'.cell? ⟨P, 0, none⟩ = some (.slice none 0 0) ∧ w'.cell? ⟨Q, 0, none⟩ = some (.bool false) ∧ Below w0.heap.size w0 w' := by
  refine (door_panicking P Q sa n c y k a b [] w hc hz hc2 hz2 hne).mono ?_
  rintro e u' w' ⟨he, hu, hw⟩
  have hp : P < w.heap.size := cell_lt hc
  have hq : Q < w.heap.size := cell_lt hc2
  have e1 : (w.alloc (.cells #[.int .i64 k, .int .i64 a, .int .i64 b] 25)).cell? ⟨P, 0, none⟩ = some (.slice sa n c) := by rw [World.cell?_alloc_lt _ _ _ hp]; exact hc
  have e3 : (w.alloc (.cells #[.int .i64 k, .int .i64 a, .int .i64 b] 25)).cell? ⟨Q, 0, none⟩ = some (.bool y) := by rw [World.cell?_alloc_lt _ _ _ hq]; exact hc2
  have e5 : ((w.alloc (.cells #[.int .i64 k, .int .i64 a, .int .i64 b] 25)).setCell ⟨P, 0, none⟩ (.slice none 0 0)).cell? ⟨Q, 0, none⟩ = some (.bool y) := by rw [World.cell?_setCell_far _ _ _ _ (by simpa using hne)]; exact e3
  have e6 : ((w.alloc (.cells #[.int .i64 k, .int .i64 a, .int .i64 b] 25)).setCell ⟨P, 0, none⟩ (.slice none 0 0)).cell? ⟨P, 0, none⟩ = some (.slice none 0 0) := World.cell?_setCell_same' _ _ _ (by rw [e1]; rfl)
  refine ⟨he, hu, ?_, ?_, ?_⟩
  · rw [hw, World.cell?_setCell_far _ _ _ _ (by simpa using (fun e => hne e.symm : Q ≠ P))]; exact e6
  · rw [hw]; exact World.cell?_setCell_same' _ _ _ (by rw [e5]; rfl)
  · rw [hw]; exact bset (bset (balloc hB _) (by simpa using hP) _) (by simpa using hQ) _
theorem door_idl (P Q : Nat) (w : World) :
    CallsD Try.prog 34 #[.pointer (some ⟨P, 0, none⟩), .pointer (some ⟨Q, 0, none⟩)] .returning w fun e u' w' => e = .returned (.tuple #[]) ∧ u' = .returning ∧ Below w.heap.size w w' := by
  refine (door_idle P Q w).mono ?_
  rintro e u' w' ⟨he, hu, hw⟩
  exact ⟨he, hu, by rw [hw]; exact balloc (Below.refl _ _) _⟩
end Go.Proofs.Ythhmmdapoaeeiaa
