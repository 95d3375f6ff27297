/- What a step is, on both sides. -/
import Derived.Test.YtffafiidblamkaaDoorStepT
import Derived.Test.YtffafiidblamkaaDoorStep
namespace Go.Proofs.YtffafiidblamkaaDoor
open Go.ChangeShapes Go.WideShapes Go.ChangeAt Go.RowKit Go.Joins
set_option maxRecDepth 100000
set_option linter.unusedVariables false
set_option linter.unusedSimpArgs false

theorem am_none (d : Int) (h : amB 0 d = true) : d = 1 := by
  have a := (amB_iff 0 d).1 h
  have : gi 0 d = d := by unfold gi; rw [Int.gcd_zero_left]; omega
  omega
theorem some_num (n d : Int) (h : amB n d = true) : (!decide (n = 0 ∧ d = 1)) = decide (0 < n) := by
  have a := (amB_iff n d).1 h
  by_cases hn : n = 0
  · subst hn; have := am_none d h; subst this; simp
  · have : 0 < n := by omega
    simp [hn, this]

theorem whole_b_impl (k : Int) (w : World) :
    Calls Tryd.prog 41 #[.int .i64 k] w fun e w' => e = .returned (.agg #[.int .i64 k, .int .i64 1]) ∧ Below w.heap.size w w' :=
  (whole_is_impl k w).mono fun e w' ⟨he, hw⟩ => ⟨he, by subst hw; (repeat (first | with_reducible exact Below.refl _ _ | with_reducible assumption | with_reducible refine balloc ?_ _ | with_reducible refine bdrew ?_ | with_reducible refine below_drewN ?_ _ | with_reducible refine bset ?_ ?_ _ | with_reducible exact Nat.le_refl _ | with_reducible refine bsize ?_ | (dsimp only; refine Nat.le_trans ?_ (Nat.le_add_right _ _)) | with_reducible refine Nat.le_trans ?_ (Nat.le_add_right _ _) | (with_reducible refine bstep ?_ (by assumption))))⟩

theorem tpStep_spec (k n d : Int) (w : World) :
    Calls Tryd.prog 25 #[.agg #[.int .i64 k, .int .i64 n, .int .i64 d]] w fun e w' => e = .returned (.bool (stB k n d)) ∧ Below w.heap.size w w' := by
  cases h1 : inB k 0 3
  · have e : stB k n d = false := by unfold stB; unfold inB at h1; rw [h1]; rfl
    rw [e]
    go_enter Tryd.func25, Tryd.ntmps25
    go_wp2_with (go_at_call 28; refine (in_spec _ _ _ _).mono ?_; rintro e w1 ⟨rfl, rfl⟩; rw [h1])
    go_ret
    refine ⟨rfl, ?_⟩
    (repeat (first | with_reducible exact Below.refl _ _ | with_reducible assumption | with_reducible refine balloc ?_ _ | with_reducible refine bdrew ?_ | with_reducible refine below_drewN ?_ _ | with_reducible refine bset ?_ ?_ _ | with_reducible exact Nat.le_refl _ | with_reducible refine bsize ?_ | (dsimp only; refine Nat.le_trans ?_ (Nat.le_add_right _ _)) | with_reducible refine Nat.le_trans ?_ (Nat.le_add_right _ _) | (with_reducible refine bstep ?_ (by assumption))))
  · cases h2 : amB n d
    · have e : stB k n d = false := by unfold stB; rw [h2]; simp
      rw [e]
      go_enter Tryd.func25, Tryd.ntmps25
      go_wp2_with (first | (go_at_call 28; refine (in_spec _ _ _ _).mono ?_; rintro e w1 ⟨rfl, rfl⟩; rw [h1]) | (go_at_call 31; refine (good_spec _ _ _).mono ?_; rintro e w1 ⟨rfl, hb1⟩; rw [h2]; obtain ⟨kc1, kf1, kz1, ky1, kx1, kv1, ku1⟩ := bcell hb1))
      go_ret
      refine ⟨rfl, ?_⟩
      (repeat (first | with_reducible exact Below.refl _ _ | with_reducible assumption | with_reducible refine balloc ?_ _ | with_reducible refine bdrew ?_ | with_reducible refine below_drewN ?_ _ | with_reducible refine bset ?_ ?_ _ | with_reducible exact Nat.le_refl _ | with_reducible refine bsize ?_ | (dsimp only; refine Nat.le_trans ?_ (Nat.le_add_right _ _)) | with_reducible refine Nat.le_trans ?_ (Nat.le_add_right _ _) | (with_reducible refine bstep ?_ (by assumption))))
    · have e : stB k n d = decide (0 < n) := by unfold stB; unfold inB at h1; rw [h1, h2]; rfl
      rw [e]
      go_enter Tryd.func25, Tryd.ntmps25
      go_wp2_with (first | (go_at_call 28; refine (in_spec _ _ _ _).mono ?_; rintro e w1 ⟨rfl, rfl⟩; rw [h1]) | (go_at_call 31; refine (good_spec _ _ _).mono ?_; rintro e w1 ⟨rfl, hb1⟩; rw [h2]; obtain ⟨kc1, kf1, kz1, ky1, kx1, kv1, ku1⟩ := bcell hb1))
      go_ret
      refine ⟨rfl, ?_⟩
      (repeat (first | with_reducible exact Below.refl _ _ | with_reducible assumption | with_reducible refine balloc ?_ _ | with_reducible refine bdrew ?_ | with_reducible refine below_drewN ?_ _ | with_reducible refine bset ?_ ?_ _ | with_reducible exact Nat.le_refl _ | with_reducible refine bsize ?_ | (dsimp only; refine Nat.le_trans ?_ (Nat.le_add_right _ _)) | with_reducible refine Nat.le_trans ?_ (Nat.le_add_right _ _) | (with_reducible refine bstep ?_ (by assumption))))

/-- Is it an amount other than 0? -/
def smB (n d : Int) : Bool := amB n d && decide (0 < n)
theorem isSome_impl (n d : Int) (bn : -9223372036854775808 ≤ n ∧ n ≤ 9223372036854775807) (bd : -9223372036854775808 ≤ d ∧ d ≤ 9223372036854775807) (w : World) :
    Calls Tryd.prog 44 #[.agg #[.int .i64 n, .int .i64 d]] w fun e w' => e = .returned (.bool (smB n d)) ∧ Below w.heap.size w w' := by
  unfold smB
  cases h1 : amB n d
  · go_enter Tryd.func44, Tryd.ntmps44
    go_wp2
    first | (go_region_with ((go_at_call 21; refine (isam_impl _ _ bn.2 bd.2 _).mono ?_; rintro e w1 ⟨rfl, hb1⟩; rw [h1]; obtain ⟨kc1, kf1, kz1, ky1, kx1, kv1, ku1⟩ := bcell hb1))) | fail
    all_goals go_wp2
    all_goals go_ret
    all_goals refine ⟨rfl, ?_⟩
    all_goals (repeat (first | with_reducible exact Below.refl _ _ | with_reducible assumption | with_reducible refine balloc ?_ _ | with_reducible refine bdrew ?_ | with_reducible refine below_drewN ?_ _ | with_reducible refine bset ?_ ?_ _ | with_reducible exact Nat.le_refl _ | with_reducible refine bsize ?_ | (dsimp only; refine Nat.le_trans ?_ (Nat.le_add_right _ _)) | with_reducible refine Nat.le_trans ?_ (Nat.le_add_right _ _) | (with_reducible refine bstep ?_ (by assumption))))
  · by_cases hn : n = 0
    · subst hn
      have hd := am_none d h1
      subst hd
      go_enter Tryd.func44, Tryd.ntmps44
      go_wp2
      first | (go_region_held3 (fun w' => w'.cell? ⟨w.heap.size, 0, none⟩ = some (.int .i64 0) ∧ w'.cell? ⟨w.heap.size, 1, none⟩ = some (.int .i64 1) ∧ w.heap.size < w'.heap.size) (((go_split_ands; (repeat' apply And.intro) <;> first | assumption | (simp [go_sem]; done) | go_keep))) (first | (go_at_call 21; refine (isam_impl _ _ bn.2 bd.2 _).mono ?_; rintro e w1 ⟨rfl, hb⟩; rw [h1]; go_split_ands; (have f1 := (hb.cell (p := ⟨w.heap.size, 0, none⟩) (by assumption)).trans (by assumption)); (have f2 := (hb.cell (p := ⟨w.heap.size, 1, none⟩) (by assumption)).trans (by assumption)); (have f3 := Nat.lt_of_lt_of_le (by assumption) hb.size)) | (go_at_call 41; refine (whole_b_impl _ _).mono ?_; rintro e w1 ⟨rfl, hb⟩; skip; go_split_ands; (have f1 := (hb.cell (p := ⟨w.heap.size, 0, none⟩) (by assumption)).trans (by assumption)); (have f2 := (hb.cell (p := ⟨w.heap.size, 1, none⟩) (by assumption)).trans (by assumption)); (have f3 := Nat.lt_of_lt_of_le (by assumption) hb.size)))) | fail
      all_goals go_wp2
      all_goals go_ret
      all_goals refine ⟨by simp, ?_⟩
      all_goals (repeat (first | with_reducible exact Below.refl _ _ | with_reducible assumption | with_reducible refine balloc ?_ _ | with_reducible refine bdrew ?_ | with_reducible refine below_drewN ?_ _ | with_reducible refine bset ?_ ?_ _ | with_reducible exact Nat.le_refl _ | with_reducible refine bsize ?_ | (dsimp only; refine Nat.le_trans ?_ (Nat.le_add_right _ _)) | with_reducible refine Nat.le_trans ?_ (Nat.le_add_right _ _) | (with_reducible refine bstep ?_ (by assumption))))
    · have hp : decide (0 < n) = true := by have := (amB_iff n d).1 h1; simp; omega
      rw [hp]
      clear hp
      go_enter Tryd.func44, Tryd.ntmps44
      go_wp2
      first | (go_region_held3 (fun w' => w'.cell? ⟨w.heap.size, 0, none⟩ = some (.int .i64 n) ∧ w'.cell? ⟨w.heap.size, 1, none⟩ = some (.int .i64 d) ∧ w.heap.size < w'.heap.size) (((go_split_ands; (repeat' apply And.intro) <;> first | assumption | (simp [go_sem]; done) | go_keep))) (first | (go_at_call 21; refine (isam_impl _ _ bn.2 bd.2 _).mono ?_; rintro e w1 ⟨rfl, hb⟩; rw [h1]; go_split_ands; (have f1 := (hb.cell (p := ⟨w.heap.size, 0, none⟩) (by assumption)).trans (by assumption)); (have f2 := (hb.cell (p := ⟨w.heap.size, 1, none⟩) (by assumption)).trans (by assumption)); (have f3 := Nat.lt_of_lt_of_le (by assumption) hb.size)) | (go_at_call 41; refine (whole_b_impl _ _).mono ?_; rintro e w1 ⟨rfl, hb⟩; skip; go_split_ands; (have f1 := (hb.cell (p := ⟨w.heap.size, 0, none⟩) (by assumption)).trans (by assumption)); (have f2 := (hb.cell (p := ⟨w.heap.size, 1, none⟩) (by assumption)).trans (by assumption)); (have f3 := Nat.lt_of_lt_of_le (by assumption) hb.size)))) | fail
      all_goals go_wp2
      all_goals go_ret
      all_goals refine ⟨by simp, ?_⟩
      all_goals (repeat (first | with_reducible exact Below.refl _ _ | with_reducible assumption | with_reducible refine balloc ?_ _ | with_reducible refine bdrew ?_ | with_reducible refine below_drewN ?_ _ | with_reducible refine bset ?_ ?_ _ | with_reducible exact Nat.le_refl _ | with_reducible refine bsize ?_ | (dsimp only; refine Nat.le_trans ?_ (Nat.le_add_right _ _)) | with_reducible refine Nat.le_trans ?_ (Nat.le_add_right _ _) | (with_reducible refine bstep ?_ (by assumption))))

theorem isStep_impl (k n d : Int) (bn : -9223372036854775808 ≤ n ∧ n ≤ 9223372036854775807) (bd : -9223372036854775808 ≤ d ∧ d ≤ 9223372036854775807) (w : World) :
    Calls Tryd.prog 27 #[.agg #[.int .i64 k, .int .i64 n, .int .i64 d]] w fun e w' => e = .returned (.bool (stB k n d)) ∧ Below w.heap.size w w' := by
  have e : stB k n d = (inB k 0 3 && smB n d) := rfl
  rw [e]
  cases h1 : inB k 0 3
  · go_enter Tryd.func27, Tryd.ntmps27
    go_wp2_with (go_at_call 43; refine (in_impl _ _ _ _).mono ?_; rintro e w1 ⟨rfl, rfl⟩; rw [h1])
    go_ret
    refine ⟨rfl, ?_⟩
    (repeat (first | with_reducible exact Below.refl _ _ | with_reducible assumption | with_reducible refine balloc ?_ _ | with_reducible refine bdrew ?_ | with_reducible refine below_drewN ?_ _ | with_reducible refine bset ?_ ?_ _ | with_reducible exact Nat.le_refl _ | with_reducible refine bsize ?_ | (dsimp only; refine Nat.le_trans ?_ (Nat.le_add_right _ _)) | with_reducible refine Nat.le_trans ?_ (Nat.le_add_right _ _) | (with_reducible refine bstep ?_ (by assumption))))
  · go_enter Tryd.func27, Tryd.ntmps27
    go_wp2_with (first | (go_at_call 43; refine (in_impl _ _ _ _).mono ?_; rintro e w1 ⟨rfl, rfl⟩; rw [h1]) | (go_at_call 44; refine (isSome_impl _ _ bn bd _).mono ?_; rintro e w1 ⟨rfl, hb1⟩; obtain ⟨kc1, kf1, kz1, ky1, kx1, kv1, ku1⟩ := bcell hb1))
    go_ret
    refine ⟨by simp, ?_⟩
    (repeat (first | with_reducible exact Below.refl _ _ | with_reducible assumption | with_reducible refine balloc ?_ _ | with_reducible refine bdrew ?_ | with_reducible refine below_drewN ?_ _ | with_reducible refine bset ?_ ?_ _ | with_reducible exact Nat.le_refl _ | with_reducible refine bsize ?_ | (dsimp only; refine Nat.le_trans ?_ (Nat.le_add_right _ _)) | with_reducible refine Nat.le_trans ?_ (Nat.le_add_right _ _) | (with_reducible refine bstep ?_ (by assumption))))

end Go.Proofs.YtffafiidblamkaaDoor
