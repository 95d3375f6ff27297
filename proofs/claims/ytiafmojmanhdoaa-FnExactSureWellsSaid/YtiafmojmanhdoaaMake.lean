/- Contracts of the model's amMake and of MakeAmount on both sides, over the translated program. -/
import Derived.Test.YtiafmojmanhdoaaIsAm
namespace Go.Proofs.Ytiafmojmanhdoaa
open Go.RowKit
set_option linter.unusedSimpArgs false

theorem good_low (n d : Int) (h1 : 0 ≤ n) (h2 : 1 ≤ d) : amB (n / gi n d) (d / gi n d) = lowB n d := by
  have hg1 := gi_pos n d (by omega)
  cases hb : lowB n d
  · cases ha : amB (n / gi n d) (d / gi n d)
    · rfl
    · have := (amB_iff _ _).1 ha
      have hb' : lowB n d = true := (lowB_iff n d).2 ⟨h1, h2, this.2.1, this.2.2.2.1⟩
      rw [hb] at hb'; exact absurd hb' (by simp)
  · have := amB_low n d hb
    unfold lowN lowD at this
    rwa [if_pos hb, if_pos hb] at this

/-- MakeAmount's answer. -/
def mkOk (n d : Int) : Bool := inB n 0 1000000000000000 && inB d 1 1000000000000000
def mkB (n d : Int) : Bool := mkOk n d && lowB n d
def mkN (n d : Int) : Int := if mkOk n d = true then lowN n d else 0
def mkD (n d : Int) : Int := if mkOk n d = true then lowD n d else 0

theorem in_impl (n lo hi : Int) (w : World) :
    Calls Try.prog 76 #[.int .i64 n, .int .i64 lo, .int .i64 hi] w fun e w' => e = .returned (.bool (inB n lo hi)) ∧ w = w' := by
  by_cases h1 : lo ≤ n <;> by_cases h2 : n ≤ hi
  all_goals
    go_enter Try.func76, Try.ntmps76
    go_wp2
    go_ret
    simp [inB, h1, h2]

end Go.Proofs.Ytiafmojmanhdoaa
