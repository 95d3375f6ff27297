/- The laws' helpers on roads: the copy, the comparison, the size. -/
import Derived.Test.YtiafmojmanhdoaaLAmount
import Derived.Test.YtiafmojmanhdoaaQAmount
import Derived.Test.YtiafmojmanhdoaaRAmount
import Derived.Test.YtiafmojmanhdoaaRowsL
import Derived.Test.YtiafmojmanhdoaaRowS
import Derived.Deep.RegionHeld3
import Derived.Deep.DeepCutAuto
namespace Go.Proofs.Ytiafmojmanhdoaa
open Go.ChangeShapes Go.WideShapes Go.ChangeAt Go.RowKit Go.Joins
set_option maxRecDepth 100000
set_option linter.unusedVariables false
set_option linter.unusedSimpArgs false


/-- The ending of a road's copy. -/
def EndRoad (n d : Int) (l : List (Int × Int)) (w : World) (en : Ending) (w' : World) : Prop :=
  ∃ g, en = .returned (.agg #[.int .i64 n, .int .i64 d, .slice (some ⟨g, 0, none⟩) l.length l.length]) ∧
    w'.ownsRow w.heap.size 101 2 (.slice (some ⟨g, 0, none⟩) l.length l.length) l.length (cellsG fAmt l) ∧ Below w.heap.size w w'
/-- A road in a block. -/
def RdAt (g : Nat) (n d : Int) (v : Value) (W : World) : Prop := W.cell? ⟨g, 0, none⟩ = some (.int .i64 n) ∧ W.cell? ⟨g, 1, none⟩ = some (.int .i64 d) ∧ W.cell? ⟨g, 2, none⟩ = some v ∧ g < W.heap.size
theorem RdAt.later {g : Nat} {n d : Int} {v : Value} {W W' : World} (h : RdAt g n d v W) (hb : Below W.heap.size W W') : RdAt g n d v W' :=
  ⟨keepa hb h.2.2.2 h.1, keepa hb h.2.2.2 h.2.1, keepa hb h.2.2.2 h.2.2.1, Nat.lt_of_lt_of_le h.2.2.2 hb.size⟩
theorem RdAt.new (W : World) (n d : Int) (v : Value) (t : TypeId) : RdAt W.heap.size n d v (W.alloc (.cells #[.int .i64 n, .int .i64 d, v] t)) :=
  ⟨by simp [go_sem], by simp [go_sem], by simp [go_sem], by simp⟩
theorem RdAt.alloc {g : Nat} {n d : Int} {v : Value} {W : World} (h : RdAt g n d v W) (o : Obj) : RdAt g n d v (W.alloc o) := h.later ((Below.refl _ _).alloc (Nat.le_refl _) o)
theorem RdAt.drew {g : Nat} {n d : Int} {v : Value} {W : World} (h : RdAt g n d v W) : RdAt g n d v W.drew := h.later ((Below.refl _ _).drew)
section
variable {H : Type} {enc : TypeId × Value → H} {W : World} {base : Nat} {spare : Nat → Bool} {held : Bool} 
end
end Go.Proofs.Ytiafmojmanhdoaa
