/- Contracts of TripsOut, on both sides. -/
import Derived.Test.YtjmmlknbdmngeaaAns
import Derived.Test.YtjmmlknbdmngeaaOInt
import Derived.Test.YtjmmlknbdmngeaaMake
import Derived.IntWalk
namespace Go.Proofs.Ytjmmlknbdmngeaa
open Go.RowKit
set_option maxRecDepth 100000
set_option linter.unusedVariables false
set_option linter.unusedSimpArgs false

/-- Is it a number of tanks? -/
def tkOk (t : Int) : Bool := inB t 0 10
/-- The first i numbers: t, t - 1, .. -/
def trP (t i : Nat) : List Int := (List.range i).map fun (m : Nat) => (t : Int) - m
theorem trP_len (t i : Nat) : (trP t i).length = i := by simp [trP]
theorem trP_succ (t i : Nat) : trP t (i + 1) = trP t i ++ [(t : Int) - i] := by simp [trP, List.range_succ]
def trL (t : Int) : List Int := if tkOk t = true then trP t.toNat (t.toNat - 1) else []
theorem tripsOut_len (t : Int) : (trL t).length ≤ 1000 := by
  unfold trL; split
  · rename_i h; unfold tkOk inB at h; rw [trP_len]; simp at h; omega
  · simp
theorem tk_nat {t : Int} (h : tkOk t = true) : ∃ k : Nat, k ≤ 10 ∧ t = k := by
  unfold tkOk inB at h; simp at h; exact ⟨t.toNat, by omega, by omega⟩

end Go.Proofs.Ytjmmlknbdmngeaa
