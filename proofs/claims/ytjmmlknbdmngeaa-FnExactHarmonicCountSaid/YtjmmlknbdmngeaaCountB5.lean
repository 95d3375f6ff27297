/- What the contracts of the program's countWithin, take. -/
import Derived.Test.YtjmmlknbdmngeaaCount5
import Derived.Test.YtjmmlknbdmngeaaHar5H
import Derived.Test.YtjmmlknbdmngeaaHar5O
import Derived.IntWalk
namespace Go.Proofs.Ytjmmlknbdmngeaa
open Go.RowKit
set_option linter.unusedVariables false
set_option linter.unusedSimpArgs false

/-- What stands for the sums: a function that gives the st-th kind's sums for 0 .. m. -/
def Sums (f : Nat) (st : Int) (m : Nat) : Prop := ∀ (j : Nat) (W : World), j ≤ m → Calls Try.prog f #[.int .i64 j] W fun e w' => e = .returned (.tuple #[.agg #[.int .i64 (hP st j).1, .int .i64 (hP st j).2], .bool true]) ∧ Below W.heap.size W w'
theorem sums_h : Sums 16 1 20 := by
  intro j W hj
  have hin : inB (j : Int) 0 20 = true := by simp [inB]; omega
  have h := hsH_impl (j : Int) W
  simpa [hNH, hDH, hin] using h
theorem sums_o : Sums 19 2 10 := by
  intro j W hj
  have hin : inB (j : Int) 0 10 = true := by simp [inB]; omega
  have h := hsO_impl (j : Int) W
  simpa [hNO, hDO, hin] using h

theorem hp_bd (st : Int) (m j : Nat) (h : OkH st m) (hj : j ≤ m) : (-9223372036854775808 ≤ (hP st j).1 ∧ (hP st j).1 ≤ 9223372036854775807) ∧ -9223372036854775808 ≤ (hP st j).2 ∧ (hP st j).2 ≤ 9223372036854775807 := by
  have a := am_of _ _ (h_am st m j h hj)
  have := a.a; have := a.b; have := a.c; have := a.d
  omega
theorem cm_yes (st : Int) (m j : Nat) (n d : Int) (h : OkH st m) (hj : j ≤ m) (ha : amB n d = true) : okk (hP st j).1 (hP st j).2 n d = true ∧ cmI (hP st j).1 (hP st j).2 n d = sgI ((hP st j).1 * d - n * (hP st j).2) := by
  have hk : okk (hP st j).1 (hP st j).2 n d = true := by simp [okk, h_am st m j h hj, ha]
  exact ⟨hk, by unfold cmI; rw [if_pos hk]⟩

end Go.Proofs.Ytjmmlknbdmngeaa
