/- Contracts of IsAmount and of the small functions beneath it, over the translated program. -/
import Derived.Test.YtgpbkjakmbmccaaLow
namespace Go.Proofs.Ytgpbkjakmbmccaa
open Go.RowKit

set_option maxHeartbeats 400000 in
theorem isam_impl_no (n d : Int) (hn' : n ≤ 9223372036854775807) (hd' : d ≤ 9223372036854775807) (hl : lowB n d = false) (w : World) :
    Calls Try.prog 103 #[.agg #[.int .i64 n, .int .i64 d]] w fun e w' => e = .returned (.bool false) ∧ Below w.heap.size w w' := by
  go_enter Try.func103, Try.ntmps103
  go_wp2_with (go_at_call 50; refine (low_impl _ _ (by omega) (by omega) _).mono ?_; rintro e w1 ⟨rfl, hb1⟩; rw [hl]; obtain ⟨kc1, kf1, kz1, ky1, kx1, kv1, ku1⟩ := bcell hb1)
  go_ret
  refine ⟨rfl, ?_⟩
  (repeat (first | with_reducible exact Below.refl _ _ | with_reducible assumption | with_reducible refine balloc ?_ _ | with_reducible refine bdrew ?_ | with_reducible refine below_drewN ?_ _ | with_reducible refine bset ?_ ?_ _ | with_reducible exact Nat.le_refl _ | with_reducible refine bsize ?_ | (dsimp only; refine Nat.le_trans ?_ (Nat.le_add_right _ _)) | with_reducible refine Nat.le_trans ?_ (Nat.le_add_right _ _) | (with_reducible refine bstep ?_ (by assumption))))
set_option maxHeartbeats 400000 in
theorem isam_impl_yes (n d : Int) (hn' : n ≤ 9223372036854775807) (hd' : d ≤ 9223372036854775807) (hl : lowB n d = true) (w : World) :
    Calls Try.prog 103 #[.agg #[.int .i64 n, .int .i64 d]] w fun e w' => e = .returned (.bool (amB n d)) ∧ Below w.heap.size w w' := by
  go_enter Try.func103, Try.ntmps103
  go_wp2_with (go_at_call 50; refine (low_impl _ _ (by omega) (by omega) _).mono ?_; rintro e w1 ⟨rfl, hb1⟩; rw [hl]; obtain ⟨kc1, kf1, kz1, ky1, kx1, kv1, ku1⟩ := bcell hb1)
  all_goals go_ret
  all_goals refine ⟨by rw [← am_of_low, hl]; simp [*], ?_⟩
  all_goals (repeat (first | with_reducible exact Below.refl _ _ | with_reducible assumption | with_reducible refine balloc ?_ _ | with_reducible refine bdrew ?_ | with_reducible refine below_drewN ?_ _ | with_reducible refine bset ?_ ?_ _ | with_reducible exact Nat.le_refl _ | with_reducible refine bsize ?_ | (dsimp only; refine Nat.le_trans ?_ (Nat.le_add_right _ _)) | with_reducible refine Nat.le_trans ?_ (Nat.le_add_right _ _) | (with_reducible refine bstep ?_ (by assumption))))

/-- impl.IsAmount, at whatever numbers. -/
theorem isam_impl (n d : Int) (hn' : n ≤ 9223372036854775807) (hd' : d ≤ 9223372036854775807) (w : World) :
    Calls Try.prog 103 #[.agg #[.int .i64 n, .int .i64 d]] w fun e w' => e = .returned (.bool (amB n d)) ∧ Below w.heap.size w w' := by
  cases hl : lowB n d
  · have := am_of_low n d
    rw [hl] at this
    rw [← this]
    exact isam_impl_no n d hn' hd' hl w
  · exact isam_impl_yes n d hn' hd' hl w

def inB (n lo hi : Int) : Bool := decide (lo ≤ n ∧ n ≤ hi)

theorem in_spec (n lo hi : Int) (w : World) :
    Calls Try.prog 100 #[.int .i64 n, .int .i64 lo, .int .i64 hi] w fun e w' => e = .returned (.bool (inB n lo hi)) ∧ w = w' := by
  by_cases h1 : lo ≤ n <;> by_cases h2 : n ≤ hi
  all_goals
    go_enter Try.func100, Try.ntmps100
    go_wp2
    go_ret
    simp [inB, h1, h2]

theorem amB_no (n d : Int) (h : (inB n 0 1000000000 && inB d 1 1000000000) = false) : amB n d = false := by
  cases ha : amB n d
  · rfl
  · have := (amB_iff n d).1 ha
    simp [inB] at h; omega

set_option maxHeartbeats 400000 in
theorem good_spec (n d : Int) (w : World) :
    Calls Try.prog 124 #[.agg #[.int .i64 n, .int .i64 d]] w fun e w' => e = .returned (.bool (amB n d)) ∧ Below w.heap.size w w' := by
  cases h1 : inB n 0 1000000000
  · rw [amB_no n d (by rw [h1]; rfl)]
    go_enter Try.func124, Try.ntmps124
    go_wp2_with (go_at_call 100; refine (in_spec _ _ _ _).mono ?_; rintro e w1 ⟨rfl, rfl⟩; rw [h1])
    go_ret
    refine ⟨rfl, ?_⟩
    (repeat (first | with_reducible exact Below.refl _ _ | with_reducible assumption | with_reducible refine balloc ?_ _ | with_reducible refine bdrew ?_ | with_reducible refine below_drewN ?_ _ | with_reducible refine bset ?_ ?_ _ | with_reducible exact Nat.le_refl _ | with_reducible refine bsize ?_ | (dsimp only; refine Nat.le_trans ?_ (Nat.le_add_right _ _)) | with_reducible refine Nat.le_trans ?_ (Nat.le_add_right _ _) | (with_reducible refine bstep ?_ (by assumption))))
  · cases h2 : inB d 1 1000000000
    · rw [amB_no n d (by rw [h1, h2]; rfl)]
      go_enter Try.func124, Try.ntmps124
      go_wp2_with (go_at_call 100; refine (in_spec _ _ _ _).mono ?_; rintro e w1 ⟨rfl, rfl⟩; first | rw [h1] | rw [h2])
      go_ret
      refine ⟨rfl, ?_⟩
      (repeat (first | with_reducible exact Below.refl _ _ | with_reducible assumption | with_reducible refine balloc ?_ _ | with_reducible refine bdrew ?_ | with_reducible refine below_drewN ?_ _ | with_reducible refine bset ?_ ?_ _ | with_reducible exact Nat.le_refl _ | with_reducible refine bsize ?_ | (dsimp only; refine Nat.le_trans ?_ (Nat.le_add_right _ _)) | with_reducible refine Nat.le_trans ?_ (Nat.le_add_right _ _) | (with_reducible refine bstep ?_ (by assumption))))
    · have b1 : 0 ≤ n ∧ n ≤ 1000000000 := by simpa [inB] using h1
      have b2 : 1 ≤ d ∧ d ≤ 1000000000 := by simpa [inB] using h2
      cases hg : gi n d == 1
      all_goals
        go_enter Try.func124, Try.ntmps124
        go_wp2_with (first | (go_at_call 100; refine (in_spec _ _ _ _).mono ?_; rintro e w1 ⟨rfl, rfl⟩; first | rw [h1] | rw [h2]) | (go_at_call 123; refine (common_spec _ _ (by omega) (by omega) (by omega) (by omega) _).mono ?_; rintro e w1 ⟨rfl, hb1⟩; obtain ⟨kc1, kf1, kz1, ky1, kx1, kv1, ku1⟩ := bcell hb1))
        go_ret
        refine ⟨?_, ?_⟩
        · simp at hg; simp [amB, b1, b2, hg]
        · (repeat (first | with_reducible exact Below.refl _ _ | with_reducible assumption | with_reducible refine balloc ?_ _ | with_reducible refine bdrew ?_ | with_reducible refine below_drewN ?_ _ | with_reducible refine bset ?_ ?_ _ | with_reducible exact Nat.le_refl _ | with_reducible refine bsize ?_ | (dsimp only; refine Nat.le_trans ?_ (Nat.le_add_right _ _)) | with_reducible refine Nat.le_trans ?_ (Nat.le_add_right _ _) | (with_reducible refine bstep ?_ (by assumption))))
end Go.Proofs.Ytgpbkjakmbmccaa
