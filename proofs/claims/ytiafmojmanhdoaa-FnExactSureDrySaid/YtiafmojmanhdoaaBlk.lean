/- Blocks that lie in the heap, told whole; a row that grows leaves those of other element types. -/
import Derived.Test.YtiafmojmanhdoaaRow
import Derived.Test.YtiafmojmanhdoaaApp
namespace Go.Proofs.Ytiafmojmanhdoaa
open Go.ChangeShapes Go.WideShapes Go.ChangeAt Go.RowKit Go.Joins
set_option maxRecDepth 100000
set_option linter.unusedVariables false
set_option linter.unusedSimpArgs false

/-- A block with these cells lies at b. -/
def Blk (b : Nat) (cs : Array Value) (t : TypeId) (W : World) : Prop := W.heap[b]? = some (.cells cs t (0, 0))
theorem Blk.lt {b : Nat} {cs : Array Value} {t : TypeId} {W : World} (h : Blk b cs t W) : b < W.heap.size := (Array.getElem?_eq_some_iff.1 h).1
theorem Blk.later {b : Nat} {cs : Array Value} {t : TypeId} {W W' : World} (h : Blk b cs t W) (hb : Below W.heap.size W W') : Blk b cs t W' := (hb.block b h.lt).trans h
theorem Blk.far {b : Nat} {cs : Array Value} {t : TypeId} {W0 W W' : World} (h : Blk b cs t W) (hlt : b < W0.heap.size) (hb : Below W0.heap.size W W') : Blk b cs t W' := (hb.block b hlt).trans h
theorem Blk.alloc {b : Nat} {cs : Array Value} {t : TypeId} {W : World} (h : Blk b cs t W) (o : Obj) : Blk b cs t (W.alloc o) := (Below.heap_alloc W o b h.lt).trans h
theorem Blk.drew {b : Nat} {cs : Array Value} {t : TypeId} {W : World} (h : Blk b cs t W) : Blk b cs t W.drew := h
theorem Blk.set {b : Nat} {cs : Array Value} {t : TypeId} {W : World} (h : Blk b cs t W) {a : Addr} (ha : a.block ≠ b) (v : Value) : Blk b cs t (W.setCell a v) := by
  unfold Blk at *
  simp only [World.setCell, Array.getElem?_modify]
  rw [if_neg ha]
  exact h
theorem Blk.new (W : World) (cs : Array Value) (t : TypeId) : Blk W.heap.size cs t (W.alloc (.cells cs t)) := heap_alloc_new W _
theorem Blk.cell {b : Nat} {cs : Array Value} {t : TypeId} {W : World} (h : Blk b cs t W) (i : Nat) : W.cell? ⟨b, i, none⟩ = cs[i]? := by
  unfold Blk at h
  simp [World.cell?, h]
theorem Blk.frozen {b : Nat} {cs : Array Value} {t : TypeId} {W : World} (h : Blk b cs t W) (i : Nat) : W.frozen? ⟨b, i, none⟩ = false := by
  unfold Blk at h
  simp [World.frozen?, h]
theorem Blk.ne_row {b : Nat} {cs : Array Value} {t : TypeId} {W : World} {base e size n : Nat} {v : Value} {xs : List Value} (hb : Blk b cs t W) (h : W.ownsRow base e size v n xs) (ht : t ≠ e) : v.ownBlock ≠ some b := by
  intro e2
  rcases h.2 with ⟨hv, _⟩ | ⟨g, cap, cur, hv, _, hh, _⟩
  · rw [hv] at e2; cases e2
  · rw [hv] at e2
    injection e2 with e2
    change g = b at e2
    unfold Blk at hb
    rw [← e2, hh] at hb
    injection hb with hb
    injection hb with h1 h2
    exact ht h2.symm
theorem Blk.grown {b : Nat} {cs : Array Value} {t : TypeId} {W W' : World} {row : Option Nat} (hb : Blk b cs t W) (hg : W.grownBy W' row) (hne : row ≠ some b) : Blk b cs t W' :=
  (hg.block b hb.lt (fun e => hne e.symm)).trans hb
end Go.Proofs.Ytiafmojmanhdoaa
