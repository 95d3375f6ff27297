/- Contracts of IsAmount and of the small functions beneath it, over the translated program. -/
import Derived.Test.YtiafmojmanhdoaaLow
namespace Go.Proofs.Ytiafmojmanhdoaa
open Go.RowKit

set_option maxHeartbeats 400000 in
theorem isam_impl_no (n d : Int) (hn' : n ≤ 9223372036854775807) (hd' : d ≤ 9223372036854775807) (hl : lowB n d = false) (w : World) :
    Calls Try.prog 130 #[.agg #[.int .i64 n, .int .i64 d]] w fun e w' => e = .returned (.bool false) ∧ Below w.heap.size w w' := by
  go_enter Try.func130, Try.ntmps130
  go_wp2_with (go_at_call 122; refine (low_impl _ _ (by omega) (by omega) _).mono ?_; rintro e w1 ⟨rfl, hb1⟩; rw [hl]; obtain ⟨kc1, kf1, kz1, ky1, kx1, kv1, ku1⟩ := bcell hb1)
  go_ret
  refine ⟨rfl, ?_⟩
  (repeat (first | with_reducible exact Below.refl _ _ | with_reducible assumption | with_reducible refine balloc ?_ _ | with_reducible refine bdrew ?_ | with_reducible refine below_drewN ?_ _ | with_reducible refine bset ?_ ?_ _ | with_reducible exact Nat.le_refl _ | with_reducible refine bsize ?_ | (dsimp only; refine Nat.le_trans ?_ (Nat.le_add_right _ _)) | with_reducible refine Nat.le_trans ?_ (Nat.le_add_right _ _) | (with_reducible refine bstep ?_ (by assumption))))
set_option maxHeartbeats 400000 in
theorem isam_impl_yes (n d : Int) (hn' : n ≤ 9223372036854775807) (hd' : d ≤ 9223372036854775807) (hl : lowB n d = true) (w : World) :
    Calls Try.prog 130 #[.agg #[.int .i64 n, .int .i64 d]] w fun e w' => e = .returned (.bool (amB n d)) ∧ Below w.heap.size w w' := by
  go_enter Try.func130, Try.ntmps130
  go_wp2_with (go_at_call 122; refine (low_impl _ _ (by omega) (by omega) _).mono ?_; rintro e w1 ⟨rfl, hb1⟩; rw [hl]; obtain ⟨kc1, kf1, kz1, ky1, kx1, kv1, ku1⟩ := bcell hb1)
  all_goals go_ret
  all_goals refine ⟨by rw [← am_of_low, hl]; simp [*], ?_⟩
  all_goals (repeat (first | with_reducible exact Below.refl _ _ | with_reducible assumption | with_reducible refine balloc ?_ _ | with_reducible refine bdrew ?_ | with_reducible refine below_drewN ?_ _ | with_reducible refine bset ?_ ?_ _ | with_reducible exact Nat.le_refl _ | with_reducible refine bsize ?_ | (dsimp only; refine Nat.le_trans ?_ (Nat.le_add_right _ _)) | with_reducible refine Nat.le_trans ?_ (Nat.le_add_right _ _) | (with_reducible refine bstep ?_ (by assumption))))

/-- impl.IsAmount, at whatever numbers. -/
theorem isam_impl (n d : Int) (hn' : n ≤ 9223372036854775807) (hd' : d ≤ 9223372036854775807) (w : World) :
    Calls Try.prog 130 #[.agg #[.int .i64 n, .int .i64 d]] w fun e w' => e = .returned (.bool (amB n d)) ∧ Below w.heap.size w w' := by
  cases hl : lowB n d
  · have := am_of_low n d
    rw [hl] at this
    rw [← this]
    exact isam_impl_no n d hn' hd' hl w
  · exact isam_impl_yes n d hn' hd' hl w

def inB (n lo hi : Int) : Bool := decide (lo ≤ n ∧ n ≤ hi)

theorem in_spec (n lo hi : Int) (w : World) :
    Calls Try.prog 71 #[.int .i64 n, .int .i64 lo, .int .i64 hi] w fun e w' => e = .returned (.bool (inB n lo hi)) ∧ w = w' := by
  by_cases h1 : lo ≤ n <;> by_cases h2 : n ≤ hi
  all_goals
    go_enter Try.func71, Try.ntmps71
    go_wp2
    go_ret
    simp [inB, h1, h2]

theorem amB_no (n d : Int) (h : (inB n 0 1000000000 && inB d 1 1000000000) = false) : amB n d = false := by
  cases ha : amB n d
  · rfl
  · have := (amB_iff n d).1 ha
    simp [inB] at h; omega

end Go.Proofs.Ytiafmojmanhdoaa
