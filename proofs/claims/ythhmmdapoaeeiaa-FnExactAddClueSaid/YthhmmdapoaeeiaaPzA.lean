/- Is it a clue: of the program and of the model. -/
import Derived.Test.YthhmmdapoaeeiaaMake
import Derived.Test.YthhmmdapoaeeiaaBase
import Derived.Deep.RegionHeld3
import Derived.Deep.DeepCutAuto
namespace Go.Proofs.Ythhmmdapoaeeiaa
open Go.ChangeShapes Go.WideShapes Go.ChangeAt Go.RowKit Go.Joins
set_option maxRecDepth 100000
set_option linter.unusedVariables false
set_option linter.unusedSimpArgs false


/-- Numbers of miles. -/
def miB (m : Int) : Bool := inB m 1 10
def ofB (k a b kd lo hi mb : Int) : Bool := decide (k = kd) && (inB a lo hi && inB b 0 mb)
/-- Is it a clue of a road of so many miles? -/
def clB (m k a b : Int) : Bool := ofB k a b 0 1 (m - 1) 0 || ofB k a b 1 1 (m - 1) 0 || ofB k a b 2 0 (m - 1) 0 || ofB k a b 3 1 m (m - 1) || ofB k a b 4 1 m 0 || ofB k a b 5 1 m 0
theorem miB_yes {m : Int} (h : miB m = true) : 1 ≤ m ∧ m ≤ 10 := by simpa [miB, inB] using h
theorem ofB_ne {k a b kd lo hi mb : Int} (h : k ≠ kd) : ofB k a b kd lo hi mb = false := by simp [ofB, h]
theorem ofB_k {k a b kd lo hi mb : Int} (h : ofB k a b kd lo hi mb = true) : k = kd := by simp [ofB] at h; exact h.1
theorem mi_impl (m : Int) (w : World) :
    Calls Try.prog 35 #[.int .i64 m] w fun e w' => e = .returned (.bool (miB m)) ∧ w = w' := by
  go_enter Try.func35, Try.ntmps35
  go_wp2_with (go_at_call 30; refine (in_impl _ _ _ _).mono ?_; rintro e w1 ⟨rfl, rfl⟩)
  go_ret
  exact ⟨rfl, rfl⟩
theorem mi_spec (m : Int) (w : World) :
    Calls Try.prog 21 #[.int .i64 m] w fun e w' => e = .returned (.bool (miB m)) ∧ w = w' := by
  go_enter Try.func21, Try.ntmps21
  go_wp2_with (go_at_call 28; refine (in_spec _ _ _ _).mono ?_; rintro e w1 ⟨rfl, rfl⟩)
  go_ret
  exact ⟨rfl, rfl⟩
set_option maxHeartbeats 800000 in
theorem isOf_impl (k a b kd lo hi mb : Int) (w : World) :
    Calls Try.prog 39 #[.agg #[.int .i64 k, .int .i64 a, .int .i64 b], .int .i64 kd, .int .i64 lo, .int .i64 hi, .int .i64 mb] w fun e w' => e = .returned (.bool (ofB k a b kd lo hi mb)) ∧ Below w.heap.size w w' := by
  by_cases hk : k = kd
  · subst hk
    have e : ofB k a b k lo hi mb = (inB a lo hi && inB b 0 mb) := by simp [ofB]
    rw [e]; clear e
    cases h1 : inB a lo hi
    · rw [Bool.false_and]
      go_enter Try.func39, Try.ntmps39
      go_wp2_with (go_at_call 30; refine (in_impl _ _ _ _).mono ?_; rintro e w1 ⟨rfl, rfl⟩; rw [h1])
      go_ret
      refine ⟨rfl, ?_⟩
      (repeat (first | with_reducible exact Below.refl _ _ | with_reducible assumption | with_reducible refine balloc ?_ _ | with_reducible refine bdrew ?_ | with_reducible refine below_drewN ?_ _ | with_reducible refine bset ?_ ?_ _ | with_reducible exact Nat.le_refl _ | with_reducible refine bsize ?_ | (dsimp only; refine Nat.le_trans ?_ (Nat.le_add_right _ _)) | with_reducible refine Nat.le_trans ?_ (Nat.le_add_right _ _) | (with_reducible refine bstep ?_ (by assumption))))
    · rw [Bool.true_and]
      cases h2 : inB b 0 mb
      all_goals
        go_enter Try.func39, Try.ntmps39
        go_wp2_with (go_at_call 30; refine (in_impl _ _ _ _).mono ?_; rintro e w1 ⟨rfl, rfl⟩; first | rw [h1] | rw [h2])
        go_ret
        refine ⟨rfl, ?_⟩
        (repeat (first | with_reducible exact Below.refl _ _ | with_reducible assumption | with_reducible refine balloc ?_ _ | with_reducible refine bdrew ?_ | with_reducible refine below_drewN ?_ _ | with_reducible refine bset ?_ ?_ _ | with_reducible exact Nat.le_refl _ | with_reducible refine bsize ?_ | (dsimp only; refine Nat.le_trans ?_ (Nat.le_add_right _ _)) | with_reducible refine Nat.le_trans ?_ (Nat.le_add_right _ _) | (with_reducible refine bstep ?_ (by assumption))))
  · rw [ofB_ne hk]
    go_enter Try.func39, Try.ntmps39
    go_wp2_with fail
    go_ret
    refine ⟨rfl, ?_⟩
    (repeat (first | with_reducible exact Below.refl _ _ | with_reducible assumption | with_reducible refine balloc ?_ _ | with_reducible refine bdrew ?_ | with_reducible refine below_drewN ?_ _ | with_reducible refine bset ?_ ?_ _ | with_reducible exact Nat.le_refl _ | with_reducible refine bsize ?_ | (dsimp only; refine Nat.le_trans ?_ (Nat.le_add_right _ _)) | with_reducible refine Nat.le_trans ?_ (Nat.le_add_right _ _) | (with_reducible refine bstep ?_ (by assumption))))

theorem clB_other {m k a b : Int} (h0 : k ≠ 0) (h1 : k ≠ 1) (h2 : k ≠ 2) (h3 : k ≠ 3) (h4 : k ≠ 4) (h5 : k ≠ 5) : clB m k a b = false := by
  simp [clB, ofB, h0, h1, h2, h3, h4, h5]
theorem clB_b {m k a b : Int} (h3 : k ≠ 3) (hb : b ≠ 0) : clB m k a b = false := by
  have h : inB b 0 0 = false := by simp [inB]; omega
  simp [clB, ofB, h3, h]
theorem clB_0 (m a : Int) : clB m 0 a 0 = inB a 1 (m - 1) := by
  have h : inB 0 0 0 = true := by decide
  simp [clB, ofB, h]
theorem clB_1 (m a : Int) : clB m 1 a 0 = inB a 1 (m - 1) := by
  have h : inB 0 0 0 = true := by decide
  simp [clB, ofB, h]
theorem clB_2 (m a : Int) : clB m 2 a 0 = inB a 0 (m - 1) := by
  have h : inB 0 0 0 = true := by decide
  simp [clB, ofB, h]
theorem clB_4 (m a : Int) : clB m 4 a 0 = inB a 1 m := by
  have h : inB 0 0 0 = true := by decide
  simp [clB, ofB, h]
theorem clB_5 (m a : Int) : clB m 5 a 0 = inB a 1 m := by
  have h : inB 0 0 0 = true := by decide
  simp [clB, ofB, h]
theorem clB_3 (m a b : Int) : clB m 3 a b = (inB a 1 m && inB b 0 (m - 1)) := by
  simp [clB, ofB]
set_option maxHeartbeats 1600000 in
theorem cl_spec_0 (m a : Int) (hm : 1 ≤ m ∧ m ≤ 10) (w : World) :
    Calls Try.prog 22 #[.int .i64 m, .agg #[.int .i64 0, .int .i64 a, .int .i64 0]] w fun e w' => e = .returned (.bool (clB m 0 a 0)) ∧ Below w.heap.size w w' := by
  rw [clB_0]
  go_enter Try.func22, Try.ntmps22
  go_wp2_with (go_at_call 28; refine (in_spec _ _ _ _).mono ?_; rintro e w1 ⟨rfl, rfl⟩)
  go_ret
  refine ⟨rfl, ?_⟩
  (repeat (first | with_reducible exact Below.refl _ _ | with_reducible assumption | with_reducible refine balloc ?_ _ | with_reducible refine bdrew ?_ | with_reducible refine below_drewN ?_ _ | with_reducible refine bset ?_ ?_ _ | with_reducible exact Nat.le_refl _ | with_reducible refine bsize ?_ | (dsimp only; refine Nat.le_trans ?_ (Nat.le_add_right _ _)) | with_reducible refine Nat.le_trans ?_ (Nat.le_add_right _ _) | (with_reducible refine bstep ?_ (by assumption))))
set_option maxHeartbeats 1600000 in
theorem cl_spec_1 (m a : Int) (hm : 1 ≤ m ∧ m ≤ 10) (w : World) :
    Calls Try.prog 22 #[.int .i64 m, .agg #[.int .i64 1, .int .i64 a, .int .i64 0]] w fun e w' => e = .returned (.bool (clB m 1 a 0)) ∧ Below w.heap.size w w' := by
  rw [clB_1]
  go_enter Try.func22, Try.ntmps22
  go_wp2_with (go_at_call 28; refine (in_spec _ _ _ _).mono ?_; rintro e w1 ⟨rfl, rfl⟩)
  go_ret
  refine ⟨rfl, ?_⟩
  (repeat (first | with_reducible exact Below.refl _ _ | with_reducible assumption | with_reducible refine balloc ?_ _ | with_reducible refine bdrew ?_ | with_reducible refine below_drewN ?_ _ | with_reducible refine bset ?_ ?_ _ | with_reducible exact Nat.le_refl _ | with_reducible refine bsize ?_ | (dsimp only; refine Nat.le_trans ?_ (Nat.le_add_right _ _)) | with_reducible refine Nat.le_trans ?_ (Nat.le_add_right _ _) | (with_reducible refine bstep ?_ (by assumption))))
set_option maxHeartbeats 1600000 in
theorem cl_spec_2 (m a : Int) (hm : 1 ≤ m ∧ m ≤ 10) (w : World) :
    Calls Try.prog 22 #[.int .i64 m, .agg #[.int .i64 2, .int .i64 a, .int .i64 0]] w fun e w' => e = .returned (.bool (clB m 2 a 0)) ∧ Below w.heap.size w w' := by
  rw [clB_2]
  go_enter Try.func22, Try.ntmps22
  go_wp2_with (go_at_call 28; refine (in_spec _ _ _ _).mono ?_; rintro e w1 ⟨rfl, rfl⟩)
  go_ret
  refine ⟨rfl, ?_⟩
  (repeat (first | with_reducible exact Below.refl _ _ | with_reducible assumption | with_reducible refine balloc ?_ _ | with_reducible refine bdrew ?_ | with_reducible refine below_drewN ?_ _ | with_reducible refine bset ?_ ?_ _ | with_reducible exact Nat.le_refl _ | with_reducible refine bsize ?_ | (dsimp only; refine Nat.le_trans ?_ (Nat.le_add_right _ _)) | with_reducible refine Nat.le_trans ?_ (Nat.le_add_right _ _) | (with_reducible refine bstep ?_ (by assumption))))
set_option maxHeartbeats 1600000 in
theorem cl_spec_4 (m a : Int) (hm : 1 ≤ m ∧ m ≤ 10) (w : World) :
    Calls Try.prog 22 #[.int .i64 m, .agg #[.int .i64 4, .int .i64 a, .int .i64 0]] w fun e w' => e = .returned (.bool (clB m 4 a 0)) ∧ Below w.heap.size w w' := by
  rw [clB_4]
  go_enter Try.func22, Try.ntmps22
  go_wp2_with (go_at_call 28; refine (in_spec _ _ _ _).mono ?_; rintro e w1 ⟨rfl, rfl⟩)
  go_ret
  refine ⟨rfl, ?_⟩
  (repeat (first | with_reducible exact Below.refl _ _ | with_reducible assumption | with_reducible refine balloc ?_ _ | with_reducible refine bdrew ?_ | with_reducible refine below_drewN ?_ _ | with_reducible refine bset ?_ ?_ _ | with_reducible exact Nat.le_refl _ | with_reducible refine bsize ?_ | (dsimp only; refine Nat.le_trans ?_ (Nat.le_add_right _ _)) | with_reducible refine Nat.le_trans ?_ (Nat.le_add_right _ _) | (with_reducible refine bstep ?_ (by assumption))))
set_option maxHeartbeats 1600000 in
theorem cl_spec_5 (m a : Int) (hm : 1 ≤ m ∧ m ≤ 10) (w : World) :
    Calls Try.prog 22 #[.int .i64 m, .agg #[.int .i64 5, .int .i64 a, .int .i64 0]] w fun e w' => e = .returned (.bool (clB m 5 a 0)) ∧ Below w.heap.size w w' := by
  rw [clB_5]
  go_enter Try.func22, Try.ntmps22
  go_wp2_with (go_at_call 28; refine (in_spec _ _ _ _).mono ?_; rintro e w1 ⟨rfl, rfl⟩)
  go_ret
  refine ⟨rfl, ?_⟩
  (repeat (first | with_reducible exact Below.refl _ _ | with_reducible assumption | with_reducible refine balloc ?_ _ | with_reducible refine bdrew ?_ | with_reducible refine below_drewN ?_ _ | with_reducible refine bset ?_ ?_ _ | with_reducible exact Nat.le_refl _ | with_reducible refine bsize ?_ | (dsimp only; refine Nat.le_trans ?_ (Nat.le_add_right _ _)) | with_reducible refine Nat.le_trans ?_ (Nat.le_add_right _ _) | (with_reducible refine bstep ?_ (by assumption))))
set_option maxHeartbeats 1600000 in
theorem cl_spec_3 (m a b : Int) (hm : 1 ≤ m ∧ m ≤ 10) (w : World) :
    Calls Try.prog 22 #[.int .i64 m, .agg #[.int .i64 3, .int .i64 a, .int .i64 b]] w fun e w' => e = .returned (.bool (clB m 3 a b)) ∧ Below w.heap.size w w' := by
  rw [clB_3]
  cases h1 : inB a 1 m
  · rw [Bool.false_and]
    go_enter Try.func22, Try.ntmps22
    go_wp2_with (go_at_call 28; refine (in_spec _ _ _ _).mono ?_; rintro e w1 ⟨rfl, rfl⟩; rw [h1])
    go_ret
    refine ⟨rfl, ?_⟩
    (repeat (first | with_reducible exact Below.refl _ _ | with_reducible assumption | with_reducible refine balloc ?_ _ | with_reducible refine bdrew ?_ | with_reducible refine below_drewN ?_ _ | with_reducible refine bset ?_ ?_ _ | with_reducible exact Nat.le_refl _ | with_reducible refine bsize ?_ | (dsimp only; refine Nat.le_trans ?_ (Nat.le_add_right _ _)) | with_reducible refine Nat.le_trans ?_ (Nat.le_add_right _ _) | (with_reducible refine bstep ?_ (by assumption))))
  · rw [Bool.true_and]
    cases h2 : inB b 0 (m - 1)
    all_goals
      go_enter Try.func22, Try.ntmps22
      go_wp2_with (go_at_call 28; refine (in_spec _ _ _ _).mono ?_; rintro e w1 ⟨rfl, rfl⟩; first | rw [h1] | rw [h2])
      go_ret
      refine ⟨rfl, ?_⟩
      (repeat (first | with_reducible exact Below.refl _ _ | with_reducible assumption | with_reducible refine balloc ?_ _ | with_reducible refine bdrew ?_ | with_reducible refine below_drewN ?_ _ | with_reducible refine bset ?_ ?_ _ | with_reducible exact Nat.le_refl _ | with_reducible refine bsize ?_ | (dsimp only; refine Nat.le_trans ?_ (Nat.le_add_right _ _)) | with_reducible refine Nat.le_trans ?_ (Nat.le_add_right _ _) | (with_reducible refine bstep ?_ (by assumption))))
set_option maxHeartbeats 1600000 in
theorem cl_spec_b (m k a b : Int) (hm : 1 ≤ m ∧ m ≤ 10) (h3 : k ≠ 3) (hb : b ≠ 0) (w : World) :
    Calls Try.prog 22 #[.int .i64 m, .agg #[.int .i64 k, .int .i64 a, .int .i64 b]] w fun e w' => e = .returned (.bool (false)) ∧ Below w.heap.size w w' := by
  have hc : (k != 3 && b != 0) = true := by simp [h3, hb]
  go_enter Try.func22, Try.ntmps22
  go_wp2_with fail
  go_ret
  refine ⟨rfl, ?_⟩
  (repeat (first | with_reducible exact Below.refl _ _ | with_reducible assumption | with_reducible refine balloc ?_ _ | with_reducible refine bdrew ?_ | with_reducible refine below_drewN ?_ _ | with_reducible refine bset ?_ ?_ _ | with_reducible exact Nat.le_refl _ | with_reducible refine bsize ?_ | (dsimp only; refine Nat.le_trans ?_ (Nat.le_add_right _ _)) | with_reducible refine Nat.le_trans ?_ (Nat.le_add_right _ _) | (with_reducible refine bstep ?_ (by assumption))))
set_option maxHeartbeats 1600000 in
theorem cl_spec_no (m k a b : Int) (hm : 1 ≤ m ∧ m ≤ 10) (h0 : k ≠ 0) (h1 : k ≠ 1) (h2 : k ≠ 2) (h3 : k ≠ 3) (h4 : k ≠ 4) (h5 : k ≠ 5) (hb : b = 0) (w : World) :
    Calls Try.prog 22 #[.int .i64 m, .agg #[.int .i64 k, .int .i64 a, .int .i64 b]] w fun e w' => e = .returned (.bool (false)) ∧ Below w.heap.size w w' := by
  subst hb
  go_enter Try.func22, Try.ntmps22
  go_wp2_with fail
  go_ret
  refine ⟨rfl, ?_⟩
  (repeat (first | with_reducible exact Below.refl _ _ | with_reducible assumption | with_reducible refine balloc ?_ _ | with_reducible refine bdrew ?_ | with_reducible refine below_drewN ?_ _ | with_reducible refine bset ?_ ?_ _ | with_reducible exact Nat.le_refl _ | with_reducible refine bsize ?_ | (dsimp only; refine Nat.le_trans ?_ (Nat.le_add_right _ _)) | with_reducible refine Nat.le_trans ?_ (Nat.le_add_right _ _) | (with_reducible refine bstep ?_ (by assumption))))
/-- The model's clue. -/
theorem cl_spec (m k a b : Int) (hm : 1 ≤ m ∧ m ≤ 10) (w : World) :
    Calls Try.prog 22 #[.int .i64 m, .agg #[.int .i64 k, .int .i64 a, .int .i64 b]] w fun e w' => e = .returned (.bool (clB m k a b)) ∧ Below w.heap.size w w' := by
  by_cases h3 : k = 3
  · subst h3; exact cl_spec_3 m a b hm w
  · by_cases hb : b = 0
    · subst hb
      by_cases h0 : k = 0
      · subst h0; exact cl_spec_0 m a hm w
      · by_cases h1 : k = 1
        · subst h1; exact cl_spec_1 m a hm w
        · by_cases h2 : k = 2
          · subst h2; exact cl_spec_2 m a hm w
          · by_cases h4 : k = 4
            · subst h4; exact cl_spec_4 m a hm w
            · by_cases h5 : k = 5
              · subst h5; exact cl_spec_5 m a hm w
              · rw [clB_other h0 h1 h2 h3 h4 h5]
                exact cl_spec_no m k a 0 hm h0 h1 h2 h3 h4 h5 rfl w
    · rw [clB_b h3 hb]
      exact cl_spec_b m k a b hm h3 hb w
end Go.Proofs.Ythhmmdapoaeeiaa
