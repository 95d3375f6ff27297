/- Contracts of IsAmount and of the small functions beneath it, over the translated program. -/
import Derived.Test.YtoienhjbhpdehaaLow
namespace Go.Proofs.Ytoienhjbhpdehaa
open Go.RowKit

def inB (n lo hi : Int) : Bool := decide (lo ≤ n ∧ n ≤ hi)

theorem in_spec (n lo hi : Int) (w : World) :
    Calls Try.prog 9 #[.int .i64 n, .int .i64 lo, .int .i64 hi] w fun e w' => e = .returned (.bool (inB n lo hi)) ∧ w = w' := by
  by_cases h1 : lo ≤ n <;> by_cases h2 : n ≤ hi
  all_goals
    go_enter Try.func9, Try.ntmps9
    go_wp2
    go_ret
    simp [inB, h1, h2]

theorem amB_no (n d : Int) (h : (inB n 0 1000000000 && inB d 1 1000000000) = false) : amB n d = false := by
  cases ha : amB n d
  · rfl
  · have := (amB_iff n d).1 ha
    simp [inB] at h; omega

end Go.Proofs.Ytoienhjbhpdehaa
