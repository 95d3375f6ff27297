/- Contracts of the two functions that find greatest common divisors, over the translated program. -/
import Derived.Test.YtiafmojmanhdoaaRows
import Derived.Test.YtiafmojmanhdoaaMath
import Derived.WalkKit
import Derived.WalkSpells
import Derived.BigQuiet
import Derived.Deep.QuietTactic
import Derived.Lib.Hide
namespace Go.Proofs.Ytiafmojmanhdoaa
open Go.RowKit

set_option maxHeartbeats 400000 in
theorem common_impl (a b : Int) (ha : 0 ≤ a) (hb : 0 ≤ b) (ha' : a ≤ 9223372036854775807) (hb' : b ≤ 9223372036854775807) (w : World) :
    Calls Try.prog 132 #[.int .i64 a, .int .i64 b] w fun e w' => e = .returned (.int .i64 (gi a b)) ∧ Below w.heap.size w w' := by
  go_enter Try.func132, Try.ntmps132
  go_wp2
  go_loopw [0, 1] (fun x y wr => ∃ m n : Int, 0 ≤ m ∧ 0 ≤ n ∧ m ≤ 9223372036854775807 ∧ n ≤ 9223372036854775807 ∧ Hid (gi m n = gi a b) ∧ x = .int .i64 m ∧ y = .int .i64 n ∧ Below w.heap.size w wr) (fun _ y _ => (intOf y).toNat)
  case atStart => exact ⟨a, b, ha, hb, ha', hb', rfl, rfl, rfl, Below.refl _ _⟩
  case round =>
    obtain ⟨m, n, hm, hn, hm', hn', hg, rfl, rfl, hbl⟩ := hrel
    by_cases hz : n = 0
    · subst hz
      go_wp2
      go_ret
      exact ⟨ret_int (by rw [← hg.out, gi_zero m hm]), hbl⟩
    · have hp : 0 < n := by omega
      have h1 : 0 ≤ m % n := Int.emod_nonneg _ hz
      have h2 : m % n < n := Int.emod_lt_of_pos _ hp
      go_wp2
      go_region
      all_goals
        go_roundw
        case rel => ((repeat apply Exists.intro); exact ⟨⟨n, m % n, by omega, by omega, by omega, by omega, (gi_step m n).trans hg.out, rfl, rfl, hbl.drew⟩, rfl⟩)
        case measure => simp [intOf]; omega

end Go.Proofs.Ytiafmojmanhdoaa
