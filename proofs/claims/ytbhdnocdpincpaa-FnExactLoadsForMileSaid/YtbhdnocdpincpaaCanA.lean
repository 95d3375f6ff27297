/- Cans: trips and needs for one mile, of the model and of the program. -/
import Derived.Test.YtbhdnocdpincpaaMake
namespace Go.Proofs.Ytbhdnocdpincpaa
open Go.ChangeShapes Go.WideShapes Go.ChangeAt Go.RowKit Go.Joins
set_option maxRecDepth 100000
set_option linter.unusedVariables false
set_option linter.unusedSimpArgs false

/-- A load and a number of cans. -/
def cnOk (l c : Int) : Bool := inB l 2 20 && inB c 0 1000000000
/-- The least trips, or 0. -/
def cnT (l c : Int) : Int := if c ≤ l - 1 then 1 else if l = 2 then 0 else Int.tdiv (c - 1 + (l - 2) - 1) (l - 2)
def cnTB (l c : Int) : Bool := cnOk l c && decide (cnT l c ≠ 0)
def cnTV (l c : Int) : Int := if cnTB l c = true then cnT l c else 0
/-- The need, or -1. -/
def cnR (l c : Int) : Int := if cnT l c = 0 ∨ 1000000000 < c + 2 * cnT l c - 1 then -1 else c + 2 * cnT l c - 1
def cnNB (l c : Int) : Bool := cnOk l c && decide (0 ≤ cnR l c)
def cnNV (l c : Int) : Int := if cnNB l c = true then cnR l c else 0

theorem cnOk_yes {l c : Int} (h : cnOk l c = true) : 2 ≤ l ∧ l ≤ 20 ∧ 0 ≤ c ∧ c ≤ 1000000000 := by
  simp [cnOk, inB] at h; omega
theorem cnOk_of {l c : Int} (h : 2 ≤ l ∧ l ≤ 20 ∧ 0 ≤ c ∧ c ≤ 1000000000) : cnOk l c = true := by
  simp [cnOk, inB]; omega
theorem tq_bd (x l : Int) (hl : 1 ≤ l) (hx : 0 ≤ x) : 0 ≤ Int.tdiv x l ∧ Int.tdiv x l ≤ x ∧ l * Int.tdiv x l ≤ x ∧ x < l * Int.tdiv x l + l := by
  rw [Int.tdiv_eq_ediv_of_nonneg hx]
  refine ⟨Int.ediv_nonneg hx (by omega), Int.ediv_le_self _ hx, ?_, ?_⟩
  · exact Int.mul_ediv_self_le (by omega)
  · have h1 := Int.emod_lt_of_pos x (by omega : 0 < l)
    have h2 := Int.mul_ediv_add_emod x l
    omega
/-- The trips: at least one, if any; never more than the cans, or one. -/
theorem cnT_bd (l c : Int) (hl : 2 ≤ l) (h0 : 0 ≤ c) : 0 ≤ cnT l c ∧ cnT l c ≤ c + 1 := by
  unfold cnT
  by_cases h1 : c ≤ l - 1
  · rw [if_pos h1]; omega
  · rw [if_neg h1]
    by_cases h2 : l = 2
    · rw [if_pos h2]; omega
    · rw [if_neg h2]
      have h := tq_bd (c - 1 + (l - 2) - 1) (l - 2) (by omega) (by omega)
      refine ⟨h.1, ?_⟩
      -- x = c - 2 + m; m*q <= x so q <= x/m; q <= c holds as m*q <= c - 2 + m
      have h3 := h.2.2.1
      generalize Int.tdiv (c - 1 + (l - 2) - 1) (l - 2) = q at *
      have hm : 1 ≤ l - 2 := by omega
      have h4 : (l - 2) * (q - 1) ≤ c - 2 := by rw [Int.mul_sub]; omega
      have h5 : q - 1 ≤ (l - 2) * (q - 1) ∨ q - 1 < 0 := by
        by_cases hq : 0 ≤ q - 1
        · left
          have := Int.mul_le_mul_of_nonneg_right hm hq
          omega
        · right; omega
      omega
/-- As the program tells it. -/
theorem cnT_other (l c : Int) (hl : 3 ≤ l) (h : ¬ c ≤ l - 1) : 1 + Int.tdiv (c - (l - 1) + (l - 2) - 1) (l - 2) = cnT l c := by
  unfold cnT
  rw [if_neg h, if_neg (by omega)]
  rw [Int.tdiv_eq_ediv_of_nonneg (by omega), Int.tdiv_eq_ediv_of_nonneg (by omega)]
  have e : c - 1 + (l - 2) - 1 = (c - (l - 1) + (l - 2) - 1) + 1 * (l - 2) := by omega
  rw [e, Int.add_mul_ediv_right _ _ (by omega)]
  omega
theorem cnT_pos (l c : Int) (hl : 3 ≤ l) (h0 : 0 ≤ c) : 1 ≤ cnT l c := by
  by_cases h : c ≤ l - 1
  · unfold cnT; rw [if_pos h]; omega
  · rw [← cnT_other l c hl h]
    have := (tq_bd (c - (l - 1) + (l - 2) - 1) (l - 2) (by omega) (by omega)).1
    omega

theorem load_impl (l : Int) (w : World) :
    Calls Try.prog 27 #[.int .i64 l] w fun e w' => e = .returned (.bool (inB l 2 20)) ∧ w = w' := by
  go_enter Try.func27, Try.ntmps27
  go_wp2_with (go_at_call 38; refine (in_impl _ _ _ _).mono ?_; rintro e w1 ⟨rfl, rfl⟩)
  go_ret
  exact ⟨rfl, rfl⟩
theorem cans_impl (c : Int) (w : World) :
    Calls Try.prog 28 #[.int .i64 c] w fun e w' => e = .returned (.bool (inB c 0 1000000000)) ∧ w = w' := by
  go_enter Try.func28, Try.ntmps28
  go_wp2_with (go_at_call 38; refine (in_impl _ _ _ _).mono ?_; rintro e w1 ⟨rfl, rfl⟩)
  go_ret
  exact ⟨rfl, rfl⟩
theorem load_spec (l c : Int) (w : World) :
    Calls Try.prog 25 #[.int .i64 l, .int .i64 c] w fun e w' => e = .returned (.bool (cnOk l c)) ∧ w = w' := by
  cases h1 : inB l 2 20
  · rw [show cnOk l c = false by simp [cnOk, h1]]
    go_enter Try.func25, Try.ntmps25
    go_wp2_with (go_at_call 30; refine (in_spec _ _ _ _).mono ?_; rintro e w1 ⟨rfl, rfl⟩; rw [h1])
    go_ret
    exact ⟨rfl, rfl⟩
  · rw [show cnOk l c = inB c 0 1000000000 by simp [cnOk, h1]]
    go_enter Try.func25, Try.ntmps25
    go_wp2_with (go_at_call 30; refine (in_spec _ _ _ _).mono ?_; rintro e w1 ⟨rfl, rfl⟩; (try rw [h1]))
    go_ret
    exact ⟨rfl, rfl⟩
set_option maxHeartbeats 800000 in
theorem cnTrips_spec (l c : Int) (hl : 2 ≤ l ∧ l ≤ 20) (hc : 0 ≤ c ∧ c ≤ 1000000001) (w : World) :
    Calls Try.prog 26 #[.int .i64 l, .int .i64 c] w fun e w' => e = .returned (.int .i64 (cnT l c)) ∧ w = w' := by
  by_cases h1 : c ≤ l - 1
  · rw [show cnT l c = 1 by simp [cnT, h1]]
    go_enter Try.func26, Try.ntmps26
    go_wp2
    go_ret
    exact ⟨rfl, rfl⟩
  · by_cases h2 : l = 2
    · rw [show cnT l c = 0 by unfold cnT; rw [if_neg h1, if_pos h2]]
      go_enter Try.func26, Try.ntmps26
      go_wp2
      go_ret
      exact ⟨rfl, rfl⟩
    · have e : cnT l c = Int.tdiv (c - 1 + (l - 2) - 1) (l - 2) := by simp [cnT, h1, h2]
      have hq := tq_bd (c - 1 + (l - 2) - 1) (l - 2) (by omega) (by omega)
      have h3 : ¬ (l - 2 = 0) := by omega
      rw [e]
      go_enter Try.func26, Try.ntmps26
      go_wp2
      go_ret
      exact ⟨rfl, rfl⟩
set_option maxHeartbeats 800000 in
theorem tripsM_eq (l c : Int) (w : World) :
    Calls Try.prog 9 #[.int .i64 l, .int .i64 c] w fun e w' => e = .returned (.tuple #[.int .i64 (cnTV l c), .bool (cnTB l c)]) ∧ w = w' := by
  cases h1 : cnOk l c
  · have e1 : cnTB l c = false := by simp [cnTB, h1]
    rw [show cnTV l c = 0 by simp [cnTV, e1], e1]
    go_enter Try.func9, Try.ntmps9
    go_wp2_with (go_at_call 25; refine (load_spec _ _ _).mono ?_; rintro e w1 ⟨rfl, rfl⟩; rw [h1])
    refine bodyPost_ret (v := .tuple #[.int .i64 0, .bool false]) (by simp only [results, Try.results9]; go_simp) rfl ⟨rfl, ?_⟩
    rfl
  · have hb := cnOk_yes h1
    have hT := cnT_bd l c hb.1 hb.2.2.1
    have HT := Lib.hid (fun W : World => cnTrips_spec l c ⟨hb.1, hb.2.1⟩ ⟨hb.2.2.1, by omega⟩ W)
    by_cases h2 : cnT l c = 0
    · have e1 : cnTB l c = false := by simp [cnTB, h2]
      rw [show cnTV l c = 0 by simp [cnTV, e1], e1]
      go_enter Try.func9, Try.ntmps9
      go_wp2_with (first | (go_at_call 25; refine (load_spec _ _ _).mono ?_; rintro e w1 ⟨rfl, rfl⟩; rw [h1]) | (go_at_call 26; refine (HT.out _).mono ?_; rintro e w1 ⟨rfl, rfl⟩; rw [h2]))
      refine bodyPost_ret (v := .tuple #[.int .i64 0, .bool false]) (by simp only [results, Try.results9]; go_simp) rfl ⟨rfl, ?_⟩
      rfl
    · have e1 : cnTB l c = true := by simp [cnTB, h1, h2]
      rw [show cnTV l c = cnT l c by simp [cnTV, e1], e1]
      generalize cnT l c = t at *
      go_enter Try.func9, Try.ntmps9
      go_wp2_with (first | (go_at_call 25; refine (load_spec _ _ _).mono ?_; rintro e w1 ⟨rfl, rfl⟩; rw [h1]) | (go_at_call 26; refine (HT.out _).mono ?_; rintro e w1 ⟨rfl, rfl⟩))
      refine bodyPost_ret (v := .tuple #[.int .i64 t, .bool true]) (by simp only [results, Try.results9]; go_simp) rfl ⟨rfl, ?_⟩
      rfl
set_option maxHeartbeats 1600000 in
theorem trips_eq (l c : Int) (w : World) :
    Calls Try.prog 10 #[.int .i64 l, .int .i64 c] w fun e w' => e = .returned (.tuple #[.int .i64 (cnTV l c), .bool (cnTB l c)]) ∧ w = w' := by
  cases h1 : inB l 2 20
  · have e1 : cnTB l c = false := by simp [cnTB, cnOk, h1]
    rw [show cnTV l c = 0 by simp [cnTV, e1], e1]
    go_enter Try.func10, Try.ntmps10
    go_wp2_with (go_at_call 27; refine (load_impl _ _).mono ?_; rintro e w1 ⟨rfl, rfl⟩; rw [h1])
    refine bodyPost_ret (v := .tuple #[.int .i64 0, .bool false]) (by simp only [results, Try.results10]; go_simp) rfl ⟨rfl, ?_⟩
    rfl
  · cases h2 : inB c 0 1000000000
    · have e1 : cnTB l c = false := by simp [cnTB, cnOk, h2]
      rw [show cnTV l c = 0 by simp [cnTV, e1], e1]
      go_enter Try.func10, Try.ntmps10
      go_wp2_with (first | (go_at_call 27; refine (load_impl _ _).mono ?_; rintro e w1 ⟨rfl, rfl⟩; rw [h1]) | (go_at_call 28; refine (cans_impl _ _).mono ?_; rintro e w1 ⟨rfl, rfl⟩; rw [h2]))
      refine bodyPost_ret (v := .tuple #[.int .i64 0, .bool false]) (by simp only [results, Try.results10]; go_simp) rfl ⟨rfl, ?_⟩
      rfl
    · have hk : cnOk l c = true := by simp [cnOk, h1, h2]
      have hb := cnOk_yes hk
      by_cases h3 : c ≤ l - 1
      · have e1 : cnT l c = 1 := by simp [cnT, h3]
        have e2 : cnTB l c = true := by simp [cnTB, hk, e1]
        rw [show cnTV l c = 1 by simp [cnTV, e1, e2], e2]
        have h4 : c - (l - 1) ≤ 0 := by omega
        go_enter Try.func10, Try.ntmps10
        go_wp2_with (first | (go_at_call 27; refine (load_impl _ _).mono ?_; rintro e w1 ⟨rfl, rfl⟩; rw [h1]) | (go_at_call 28; refine (cans_impl _ _).mono ?_; rintro e w1 ⟨rfl, rfl⟩; rw [h2]))
        refine bodyPost_ret (v := .tuple #[.int .i64 1, .bool true]) (by simp only [results, Try.results10]; go_simp) rfl ⟨rfl, ?_⟩
        rfl
      · have h4 : ¬ (c - (l - 1) ≤ 0) := by omega
        by_cases h5 : l - 2 = 0
        · have e1 : cnT l c = 0 := by simp [cnT, h3, (by omega : l = 2)]; omega
          have e2 : cnTB l c = false := by simp [cnTB, e1]
          rw [show cnTV l c = 0 by simp [cnTV, e2], e2]
          go_enter Try.func10, Try.ntmps10
          go_wp2_with (first | (go_at_call 27; refine (load_impl _ _).mono ?_; rintro e w1 ⟨rfl, rfl⟩; rw [h1]) | (go_at_call 28; refine (cans_impl _ _).mono ?_; rintro e w1 ⟨rfl, rfl⟩; rw [h2]))
          refine bodyPost_ret (v := .tuple #[.int .i64 0, .bool false]) (by simp only [results, Try.results10]; go_simp) rfl ⟨rfl, ?_⟩
          rfl
        · have e0 := cnT_pos l c (by omega) hb.2.2.1
          have e2 : cnTB l c = true := by simp [cnTB, hk]; omega
          have hq := tq_bd (c - (l - 1) + (l - 2) - 1) (l - 2) (by omega) (by omega)
          rw [show cnTV l c = cnT l c by simp [cnTV, e2], e2, ← cnT_other l c (by omega) h3]
          clear e0
          go_enter Try.func10, Try.ntmps10
          go_wp2_with (first | (go_at_call 27; refine (load_impl _ _).mono ?_; rintro e w1 ⟨rfl, rfl⟩; rw [h1]) | (go_at_call 28; refine (cans_impl _ _).mono ?_; rintro e w1 ⟨rfl, rfl⟩; rw [h2]))
          refine bodyPost_ret (v := .tuple #[.int .i64 (1 + Int.tdiv (c - (l - 1) + (l - 2) - 1) (l - 2)), .bool true]) (by simp only [results, Try.results10]; go_simp) rfl ⟨rfl, ?_⟩
          rfl
theorem tripsM_spec (l c : Int) (w : World) :
    Calls Try.prog 9 #[.int .i64 l, .int .i64 c] w fun e w' => e = .returned (.tuple #[.int .i64 (cnTV l c), .bool (cnTB l c)]) ∧ Below w.heap.size w w' :=
  (tripsM_eq l c w).mono (by rintro e w' ⟨rfl, rfl⟩; exact ⟨rfl, Below.refl _ _⟩)
theorem trips_impl (l c : Int) (w : World) :
    Calls Try.prog 10 #[.int .i64 l, .int .i64 c] w fun e w' => e = .returned (.tuple #[.int .i64 (cnTV l c), .bool (cnTB l c)]) ∧ Below w.heap.size w w' :=
  (trips_eq l c w).mono (by rintro e w' ⟨rfl, rfl⟩; exact ⟨rfl, Below.refl _ _⟩)
end Go.Proofs.Ytbhdnocdpincpaa
