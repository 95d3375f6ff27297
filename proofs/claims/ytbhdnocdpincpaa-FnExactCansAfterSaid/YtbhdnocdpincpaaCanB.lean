/- Cans: what is needed for one mile, out and back, of the model and of the program. -/
import Derived.Test.YtbhdnocdpincpaaCanA
namespace Go.Proofs.Ytbhdnocdpincpaa
open Go.ChangeShapes Go.WideShapes Go.ChangeAt Go.RowKit Go.Joins
set_option maxRecDepth 100000
set_option linter.unusedVariables false
set_option linter.unusedSimpArgs false

/-- Back: the need of one can more. -/
def cnBB (l c : Int) : Bool := inB c 0 1000000000 && cnNB l (c + 1)
def cnBV (l c : Int) : Int := if cnBB l c = true then cnR l (c + 1) else 0

theorem cnR_bd (l c : Int) (hl : 2 ≤ l) (h0 : 0 ≤ c) : -1 ≤ cnR l c ∧ cnR l c ≤ 1000000000 := by
  have := cnT_bd l c hl h0
  unfold cnR
  split <;> omega
theorem cnNV_bd (l c : Int) : 0 ≤ cnNV l c ∧ cnNV l c ≤ 1000000000 := by
  unfold cnNV
  split
  · rename_i h
    simp only [cnNB, Bool.and_eq_true, decide_eq_true_eq] at h
    have hb := cnOk_yes h.1
    have := cnR_bd l c hb.1 hb.2.2.1
    omega
  · omega
theorem cnBV_bd (l c : Int) : 0 ≤ cnBV l c ∧ cnBV l c ≤ 1000000000 := by
  unfold cnBV
  split
  · rename_i h
    simp only [cnBB, cnNB, Bool.and_eq_true, decide_eq_true_eq] at h
    have hb := cnOk_yes h.2.1
    have := cnR_bd l (c + 1) hb.1 hb.2.2.1
    omega
  · omega
set_option maxHeartbeats 800000 in
theorem cnNeed_spec (l c : Int) (hl : 2 ≤ l ∧ l ≤ 20) (hc : 0 ≤ c ∧ c ≤ 1000000001) (w : World) :
    Calls Try.prog 29 #[.int .i64 l, .int .i64 c] w fun e w' => e = .returned (.int .i64 (cnR l c)) ∧ w = w' := by
  have hT := cnT_bd l c hl.1 hc.1
  have HT := Lib.hid (fun W : World => cnTrips_spec l c hl hc W)
  have hR : cnR l c = if cnT l c = 0 ∨ 1000000000 < c + 2 * cnT l c - 1 then -1 else c + 2 * cnT l c - 1 := rfl
  by_cases h1 : cnT l c = 0
  · rw [show cnR l c = -1 by rw [hR, if_pos (Or.inl h1)]]
    clear hR
    go_enter Try.func29, Try.ntmps29
    go_wp2_with (go_at_call 26; refine (HT.out _).mono ?_; rintro e w1 ⟨rfl, rfl⟩; rw [h1])
    go_ret
    exact ⟨rfl, rfl⟩
  · by_cases h2 : 1000000000 < c + 2 * cnT l c - 1
    · rw [show cnR l c = -1 by rw [hR, if_pos (Or.inr h2)]]
      clear hR
      generalize cnT l c = t at *
      go_enter Try.func29, Try.ntmps29
      go_wp2_with (go_at_call 26; refine (HT.out _).mono ?_; rintro e w1 ⟨rfl, rfl⟩)
      go_ret
      exact ⟨rfl, rfl⟩
    · rw [show cnR l c = c + 2 * cnT l c - 1 by rw [hR, if_neg (by omega)]]
      clear hR
      generalize cnT l c = t at *
      go_enter Try.func29, Try.ntmps29
      go_wp2_with (go_at_call 26; refine (HT.out _).mono ?_; rintro e w1 ⟨rfl, rfl⟩)
      all_goals first | (exfalso; rename_i hx; simp at hx; omega) | (go_ret; first | exact ⟨rfl, rfl⟩ | (refine ⟨rfl, ?_⟩; (repeat (first | with_reducible exact Below.refl _ _ | with_reducible assumption | with_reducible refine balloc ?_ _ | with_reducible refine bdrew ?_ | with_reducible refine below_drewN ?_ _ | with_reducible refine bset ?_ ?_ _ | with_reducible exact Nat.le_refl _ | with_reducible refine bsize ?_ | (dsimp only; refine Nat.le_trans ?_ (Nat.le_add_right _ _)) | with_reducible refine Nat.le_trans ?_ (Nat.le_add_right _ _) | (with_reducible refine bstep ?_ (by assumption)))); done))
set_option maxHeartbeats 800000 in
theorem needM_eq (l c : Int) (w : World) :
    Calls Try.prog 11 #[.int .i64 l, .int .i64 c] w fun e w' => e = .returned (.tuple #[.int .i64 (cnNV l c), .bool (cnNB l c)]) ∧ w = w' := by
  cases h1 : cnOk l c
  · have e1 : cnNB l c = false := by simp [cnNB, h1]
    rw [show cnNV l c = 0 by simp [cnNV, e1], e1]
    go_enter Try.func11, Try.ntmps11
    go_wp2_with (go_at_call 25; refine (load_spec _ _ _).mono ?_; rintro e w1 ⟨rfl, rfl⟩; rw [h1])
    all_goals first | (exfalso; rename_i hx; simp at hx; omega) | (refine bodyPost_ret (v := .tuple #[.int .i64 0, .bool false]) (by simp only [results, Try.results11]; go_simp) rfl ⟨rfl, ?_⟩; first | rfl | ((repeat (first | with_reducible exact Below.refl _ _ | with_reducible assumption | with_reducible refine balloc ?_ _ | with_reducible refine bdrew ?_ | with_reducible refine below_drewN ?_ _ | with_reducible refine bset ?_ ?_ _ | with_reducible exact Nat.le_refl _ | with_reducible refine bsize ?_ | (dsimp only; refine Nat.le_trans ?_ (Nat.le_add_right _ _)) | with_reducible refine Nat.le_trans ?_ (Nat.le_add_right _ _) | (with_reducible refine bstep ?_ (by assumption)))); done))
  · have hb := cnOk_yes h1
    have HT := Lib.hid (fun W : World => cnNeed_spec l c ⟨hb.1, hb.2.1⟩ ⟨hb.2.2.1, by omega⟩ W)
    by_cases h2 : 0 ≤ cnR l c
    · have e1 : cnNB l c = true := by simp [cnNB, h1, h2]
      rw [show cnNV l c = cnR l c by simp [cnNV, e1], e1]
      generalize cnR l c = t at *
      have h3 : ¬ (t < 0) := by omega
      go_enter Try.func11, Try.ntmps11
      go_wp2_with (first | (go_at_call 25; refine (load_spec _ _ _).mono ?_; rintro e w1 ⟨rfl, rfl⟩; rw [h1]) | (go_at_call 29; refine (HT.out _).mono ?_; rintro e w1 ⟨rfl, rfl⟩))
      all_goals first | (exfalso; rename_i hx; simp at hx; omega) | (refine bodyPost_ret (v := .tuple #[.int .i64 t, .bool true]) (by simp only [results, Try.results11]; go_simp) rfl ⟨rfl, ?_⟩; first | rfl | ((repeat (first | with_reducible exact Below.refl _ _ | with_reducible assumption | with_reducible refine balloc ?_ _ | with_reducible refine bdrew ?_ | with_reducible refine below_drewN ?_ _ | with_reducible refine bset ?_ ?_ _ | with_reducible exact Nat.le_refl _ | with_reducible refine bsize ?_ | (dsimp only; refine Nat.le_trans ?_ (Nat.le_add_right _ _)) | with_reducible refine Nat.le_trans ?_ (Nat.le_add_right _ _) | (with_reducible refine bstep ?_ (by assumption)))); done))
    · have e1 : cnNB l c = false := by simp [cnNB, h2]
      rw [show cnNV l c = 0 by simp [cnNV, e1], e1]
      generalize cnR l c = t at *
      have h3 : t < 0 := by omega
      go_enter Try.func11, Try.ntmps11
      go_wp2_with (first | (go_at_call 25; refine (load_spec _ _ _).mono ?_; rintro e w1 ⟨rfl, rfl⟩; rw [h1]) | (go_at_call 29; refine (HT.out _).mono ?_; rintro e w1 ⟨rfl, rfl⟩))
      all_goals first | (exfalso; rename_i hx; simp at hx; omega) | (refine bodyPost_ret (v := .tuple #[.int .i64 0, .bool false]) (by simp only [results, Try.results11]; go_simp) rfl ⟨rfl, ?_⟩; first | rfl | ((repeat (first | with_reducible exact Below.refl _ _ | with_reducible assumption | with_reducible refine balloc ?_ _ | with_reducible refine bdrew ?_ | with_reducible refine below_drewN ?_ _ | with_reducible refine bset ?_ ?_ _ | with_reducible exact Nat.le_refl _ | with_reducible refine bsize ?_ | (dsimp only; refine Nat.le_trans ?_ (Nat.le_add_right _ _)) | with_reducible refine Nat.le_trans ?_ (Nat.le_add_right _ _) | (with_reducible refine bstep ?_ (by assumption)))); done))
set_option maxHeartbeats 800000 in
theorem need_eq (l c : Int) (bc : -9223372036854775808 ≤ c ∧ c ≤ 9223372036854775807) (w : World) :
    Calls Try.prog 12 #[.int .i64 l, .int .i64 c] w fun e w' => e = .returned (.tuple #[.int .i64 (cnNV l c), .bool (cnNB l c)]) ∧ w = w' := by
  have HT := Lib.hid (fun W : World => trips_eq l c W)
  cases h1 : cnTB l c
  · have e1 : cnNB l c = false := by
      simp only [cnTB, Bool.and_eq_false_iff, decide_eq_false_iff_not, Classical.not_not] at h1
      rcases h1 with h1 | h1
      · simp [cnNB, h1]
      · simp [cnNB, cnR, h1]
    have e2 : cnTV l c = 0 := by simp [cnTV, h1]
    rw [show cnNV l c = 0 by simp [cnNV, e1], e1]
    rw [h1, e2] at HT
    go_enter Try.func12, Try.ntmps12
    go_wp2_with (go_at_call 10; refine (HT.out _).mono ?_; rintro e w1 ⟨rfl, rfl⟩)
    all_goals first | (exfalso; rename_i hx; simp at hx; omega) | (refine bodyPost_ret (v := .tuple #[.int .i64 0, .bool false]) (by simp only [results, Try.results12]; go_simp) rfl ⟨rfl, ?_⟩; first | rfl | ((repeat (first | with_reducible exact Below.refl _ _ | with_reducible assumption | with_reducible refine balloc ?_ _ | with_reducible refine bdrew ?_ | with_reducible refine below_drewN ?_ _ | with_reducible refine bset ?_ ?_ _ | with_reducible exact Nat.le_refl _ | with_reducible refine bsize ?_ | (dsimp only; refine Nat.le_trans ?_ (Nat.le_add_right _ _)) | with_reducible refine Nat.le_trans ?_ (Nat.le_add_right _ _) | (with_reducible refine bstep ?_ (by assumption)))); done))
  · have h1' := h1
    simp only [cnTB, Bool.and_eq_true, decide_eq_true_eq] at h1'
    have hb := cnOk_yes h1'.1
    have hT := cnT_bd l c hb.1 hb.2.2.1
    have hR : cnR l c = if cnT l c = 0 ∨ 1000000000 < c + 2 * cnT l c - 1 then -1 else c + 2 * cnT l c - 1 := rfl
    have hN : cnNB l c = inB (c + 2 * cnT l c - 1) 0 1000000000 := by
      simp only [cnNB, h1'.1, Bool.true_and, inB]
      rw [hR]
      congr 1
      apply propext
      split <;> omega
    have e2 : cnTV l c = cnT l c := by simp [cnTV, h1]
    rw [h1, e2] at HT
    cases h2 : inB (c + 2 * cnT l c - 1) 0 1000000000
    · rw [h2] at hN
      rw [show cnNV l c = 0 by simp [cnNV, hN], hN]
      clear hR hN e2 h1
      generalize cnT l c = t at *
      go_enter Try.func12, Try.ntmps12
      go_wp2_with (first | (go_at_call 10; refine (HT.out _).mono ?_; rintro e w1 ⟨rfl, rfl⟩) | (go_at_call 28; refine (cans_impl _ _).mono ?_; rintro e w1 ⟨rfl, rfl⟩; rw [h2]))
      all_goals first | (exfalso; rename_i hx; simp at hx; omega) | (refine bodyPost_ret (v := .tuple #[.int .i64 0, .bool false]) (by simp only [results, Try.results12]; go_simp) rfl ⟨rfl, ?_⟩; first | rfl | ((repeat (first | with_reducible exact Below.refl _ _ | with_reducible assumption | with_reducible refine balloc ?_ _ | with_reducible refine bdrew ?_ | with_reducible refine below_drewN ?_ _ | with_reducible refine bset ?_ ?_ _ | with_reducible exact Nat.le_refl _ | with_reducible refine bsize ?_ | (dsimp only; refine Nat.le_trans ?_ (Nat.le_add_right _ _)) | with_reducible refine Nat.le_trans ?_ (Nat.le_add_right _ _) | (with_reducible refine bstep ?_ (by assumption)))); done))
    · have h3 : 0 ≤ c + 2 * cnT l c - 1 ∧ c + 2 * cnT l c - 1 ≤ 1000000000 := by simpa [inB] using h2
      rw [h2] at hN
      rw [show cnNV l c = c + 2 * cnT l c - 1 by simp only [cnNV, hN, if_true]; rw [hR, if_neg (by omega)], hN]
      clear hR hN e2 h1
      generalize cnT l c = t at *
      go_enter Try.func12, Try.ntmps12
      go_wp2_with (first | (go_at_call 10; refine (HT.out _).mono ?_; rintro e w1 ⟨rfl, rfl⟩) | (go_at_call 28; refine (cans_impl _ _).mono ?_; rintro e w1 ⟨rfl, rfl⟩; rw [h2]))
      all_goals first | (exfalso; rename_i hx; simp at hx; omega) | (refine bodyPost_ret (v := .tuple #[.int .i64 (c + 2 * t - 1), .bool true]) (by simp only [results, Try.results12]; go_simp) rfl ⟨rfl, ?_⟩; first | rfl | ((repeat (first | with_reducible exact Below.refl _ _ | with_reducible assumption | with_reducible refine balloc ?_ _ | with_reducible refine bdrew ?_ | with_reducible refine below_drewN ?_ _ | with_reducible refine bset ?_ ?_ _ | with_reducible exact Nat.le_refl _ | with_reducible refine bsize ?_ | (dsimp only; refine Nat.le_trans ?_ (Nat.le_add_right _ _)) | with_reducible refine Nat.le_trans ?_ (Nat.le_add_right _ _) | (with_reducible refine bstep ?_ (by assumption)))); done))
set_option maxHeartbeats 800000 in
theorem backM_eq (l c : Int) (w : World) :
    Calls Try.prog 18 #[.int .i64 l, .int .i64 c] w fun e w' => e = .returned (.tuple #[.int .i64 (cnBV l c), .bool (cnBB l c)]) ∧ w = w' := by
  cases h1 : cnOk l c
  · have e1 : cnBB l c = false := by
      cases h : cnBB l c
      · rfl
      · simp only [cnBB, cnNB, Bool.and_eq_true, decide_eq_true_eq] at h
        have := cnOk_yes h.2.1
        have h0 : 0 ≤ c ∧ c ≤ 1000000000 := by simpa [inB] using h.1
        rw [cnOk_of ⟨this.1, this.2.1, h0.1, h0.2⟩] at h1; cases h1
    rw [show cnBV l c = 0 by simp [cnBV, e1], e1]
    go_enter Try.func18, Try.ntmps18
    go_wp2_with (go_at_call 25; refine (load_spec _ _ _).mono ?_; rintro e w1 ⟨rfl, rfl⟩; rw [h1])
    all_goals first | (exfalso; rename_i hx; simp at hx; omega) | (refine bodyPost_ret (v := .tuple #[.int .i64 0, .bool false]) (by simp only [results, Try.results18]; go_simp) rfl ⟨rfl, ?_⟩; first | rfl | ((repeat (first | with_reducible exact Below.refl _ _ | with_reducible assumption | with_reducible refine balloc ?_ _ | with_reducible refine bdrew ?_ | with_reducible refine below_drewN ?_ _ | with_reducible refine bset ?_ ?_ _ | with_reducible exact Nat.le_refl _ | with_reducible refine bsize ?_ | (dsimp only; refine Nat.le_trans ?_ (Nat.le_add_right _ _)) | with_reducible refine Nat.le_trans ?_ (Nat.le_add_right _ _) | (with_reducible refine bstep ?_ (by assumption)))); done))
  · have hb := cnOk_yes h1
    have hin : inB c 0 1000000000 = true := by simp [inB]; omega
    by_cases hm : c = 1000000000
    · subst hm
      have e1 : cnBB l 1000000000 = false := by simp [cnBB, cnNB, cnOk, inB]
      rw [show cnBV l 1000000000 = 0 by simp [cnBV, e1], e1]
      go_enter Try.func18, Try.ntmps18
      go_wp2_with (go_at_call 25; refine (load_spec _ _ _).mono ?_; rintro e w1 ⟨rfl, rfl⟩; rw [h1])
      all_goals first | (exfalso; rename_i hx; simp at hx; omega) | (refine bodyPost_ret (v := .tuple #[.int .i64 0, .bool false]) (by simp only [results, Try.results18]; go_simp) rfl ⟨rfl, ?_⟩; first | rfl | ((repeat (first | with_reducible exact Below.refl _ _ | with_reducible assumption | with_reducible refine balloc ?_ _ | with_reducible refine bdrew ?_ | with_reducible refine below_drewN ?_ _ | with_reducible refine bset ?_ ?_ _ | with_reducible exact Nat.le_refl _ | with_reducible refine bsize ?_ | (dsimp only; refine Nat.le_trans ?_ (Nat.le_add_right _ _)) | with_reducible refine Nat.le_trans ?_ (Nat.le_add_right _ _) | (with_reducible refine bstep ?_ (by assumption)))); done))
    · have HT := Lib.hid (fun W : World => cnNeed_spec l (c + 1) ⟨hb.1, hb.2.1⟩ ⟨by omega, by omega⟩ W)
      have hk : cnOk l (c + 1) = true := cnOk_of ⟨hb.1, hb.2.1, by omega, by omega⟩
      by_cases h2 : 0 ≤ cnR l (c + 1)
      · have e1 : cnBB l c = true := by simp [cnBB, cnNB, hk, h2, hin]
        rw [show cnBV l c = cnR l (c + 1) by simp [cnBV, e1], e1]
        generalize cnR l (c + 1) = t at *
        have h3 : ¬ (t < 0) := by omega
        go_enter Try.func18, Try.ntmps18
        go_wp2_with (first | (go_at_call 25; refine (load_spec _ _ _).mono ?_; rintro e w1 ⟨rfl, rfl⟩; rw [h1]) | (go_at_call 29; refine (HT.out _).mono ?_; rintro e w1 ⟨rfl, rfl⟩))
        all_goals first | (exfalso; rename_i hx; simp at hx; omega) | (refine bodyPost_ret (v := .tuple #[.int .i64 t, .bool true]) (by simp only [results, Try.results18]; go_simp) rfl ⟨rfl, ?_⟩; first | rfl | ((repeat (first | with_reducible exact Below.refl _ _ | with_reducible assumption | with_reducible refine balloc ?_ _ | with_reducible refine bdrew ?_ | with_reducible refine below_drewN ?_ _ | with_reducible refine bset ?_ ?_ _ | with_reducible exact Nat.le_refl _ | with_reducible refine bsize ?_ | (dsimp only; refine Nat.le_trans ?_ (Nat.le_add_right _ _)) | with_reducible refine Nat.le_trans ?_ (Nat.le_add_right _ _) | (with_reducible refine bstep ?_ (by assumption)))); done))
      · have e1 : cnBB l c = false := by simp only [cnBB, cnNB, hk, hin, Bool.true_and, decide_eq_false_iff_not]; omega
        rw [show cnBV l c = 0 by simp [cnBV, e1], e1]
        generalize cnR l (c + 1) = t at *
        have h3 : t < 0 := by omega
        go_enter Try.func18, Try.ntmps18
        go_wp2_with (first | (go_at_call 25; refine (load_spec _ _ _).mono ?_; rintro e w1 ⟨rfl, rfl⟩; rw [h1]) | (go_at_call 29; refine (HT.out _).mono ?_; rintro e w1 ⟨rfl, rfl⟩))
        all_goals first | (exfalso; rename_i hx; simp at hx; omega) | (refine bodyPost_ret (v := .tuple #[.int .i64 0, .bool false]) (by simp only [results, Try.results18]; go_simp) rfl ⟨rfl, ?_⟩; first | rfl | ((repeat (first | with_reducible exact Below.refl _ _ | with_reducible assumption | with_reducible refine balloc ?_ _ | with_reducible refine bdrew ?_ | with_reducible refine below_drewN ?_ _ | with_reducible refine bset ?_ ?_ _ | with_reducible exact Nat.le_refl _ | with_reducible refine bsize ?_ | (dsimp only; refine Nat.le_trans ?_ (Nat.le_add_right _ _)) | with_reducible refine Nat.le_trans ?_ (Nat.le_add_right _ _) | (with_reducible refine bstep ?_ (by assumption)))); done))
set_option maxHeartbeats 800000 in
theorem back_eq (l c : Int) (w : World) :
    Calls Try.prog 19 #[.int .i64 l, .int .i64 c] w fun e w' => e = .returned (.tuple #[.int .i64 (cnBV l c), .bool (cnBB l c)]) ∧ w = w' := by
  cases h1 : inB c 0 1000000000
  · have e1 : cnBB l c = false := by simp [cnBB, h1]
    rw [show cnBV l c = 0 by simp [cnBV, e1], e1]
    go_enter Try.func19, Try.ntmps19
    go_wp2_with (go_at_call 28; refine (cans_impl _ _).mono ?_; rintro e w1 ⟨rfl, rfl⟩; rw [h1])
    all_goals first | (exfalso; rename_i hx; simp at hx; omega) | (refine bodyPost_ret (v := .tuple #[.int .i64 0, .bool false]) (by simp only [results, Try.results19]; go_simp) rfl ⟨rfl, ?_⟩; first | rfl | ((repeat (first | with_reducible exact Below.refl _ _ | with_reducible assumption | with_reducible refine balloc ?_ _ | with_reducible refine bdrew ?_ | with_reducible refine below_drewN ?_ _ | with_reducible refine bset ?_ ?_ _ | with_reducible exact Nat.le_refl _ | with_reducible refine bsize ?_ | (dsimp only; refine Nat.le_trans ?_ (Nat.le_add_right _ _)) | with_reducible refine Nat.le_trans ?_ (Nat.le_add_right _ _) | (with_reducible refine bstep ?_ (by assumption)))); done))
  · have h0 : 0 ≤ c ∧ c ≤ 1000000000 := by simpa [inB] using h1
    have HT := Lib.hid (fun W : World => need_eq l (c + 1) (by omega) W)
    have e1 : cnBB l c = cnNB l (c + 1) := by simp [cnBB, h1]
    have e2 : cnBV l c = cnNV l (c + 1) := by simp [cnBV, cnNV, e1]
    rw [e1, e2]
    clear e1 e2
    generalize cnNV l (c + 1) = t at *
    generalize cnNB l (c + 1) = b at *
    go_enter Try.func19, Try.ntmps19
    go_wp2_with (first | (go_at_call 28; refine (cans_impl _ _).mono ?_; rintro e w1 ⟨rfl, rfl⟩; rw [h1]) | (go_at_call 12; refine (HT.out _).mono ?_; rintro e w1 ⟨rfl, rfl⟩))
    all_goals first | (exfalso; rename_i hx; simp at hx; omega) | (refine bodyPost_ret (v := .tuple #[.int .i64 t, .bool b]) (by simp only [results, Try.results19]; go_simp) rfl ⟨rfl, ?_⟩; first | rfl | ((repeat (first | with_reducible exact Below.refl _ _ | with_reducible assumption | with_reducible refine balloc ?_ _ | with_reducible refine bdrew ?_ | with_reducible refine below_drewN ?_ _ | with_reducible refine bset ?_ ?_ _ | with_reducible exact Nat.le_refl _ | with_reducible refine bsize ?_ | (dsimp only; refine Nat.le_trans ?_ (Nat.le_add_right _ _)) | with_reducible refine Nat.le_trans ?_ (Nat.le_add_right _ _) | (with_reducible refine bstep ?_ (by assumption)))); done))
theorem needM_spec (l c : Int) (w : World) :
    Calls Try.prog 11 #[.int .i64 l, .int .i64 c] w fun e w' => e = .returned (.tuple #[.int .i64 (cnNV l c), .bool (cnNB l c)]) ∧ Below w.heap.size w w' :=
  (needM_eq l c w).mono (by rintro e w' ⟨rfl, rfl⟩; exact ⟨rfl, Below.refl _ _⟩)
theorem need_impl (l c : Int) (bc : -9223372036854775808 ≤ c ∧ c ≤ 9223372036854775807) (w : World) :
    Calls Try.prog 12 #[.int .i64 l, .int .i64 c] w fun e w' => e = .returned (.tuple #[.int .i64 (cnNV l c), .bool (cnNB l c)]) ∧ Below w.heap.size w w' :=
  (need_eq l c bc w).mono (by rintro e w' ⟨rfl, rfl⟩; exact ⟨rfl, Below.refl _ _⟩)
theorem backM_spec (l c : Int) (w : World) :
    Calls Try.prog 18 #[.int .i64 l, .int .i64 c] w fun e w' => e = .returned (.tuple #[.int .i64 (cnBV l c), .bool (cnBB l c)]) ∧ Below w.heap.size w w' :=
  (backM_eq l c w).mono (by rintro e w' ⟨rfl, rfl⟩; exact ⟨rfl, Below.refl _ _⟩)
theorem back_impl (l c : Int) (w : World) :
    Calls Try.prog 19 #[.int .i64 l, .int .i64 c] w fun e w' => e = .returned (.tuple #[.int .i64 (cnBV l c), .bool (cnBB l c)]) ∧ Below w.heap.size w w' :=
  (back_eq l c w).mono (by rintro e w' ⟨rfl, rfl⟩; exact ⟨rfl, Below.refl _ _⟩)
end Go.Proofs.Ytbhdnocdpincpaa
