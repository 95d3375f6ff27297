/- Days of a way with rests; water: of the program and of the model. -/
import Derived.Test.YthfaljninmcopaaCavB
import Derived.Test.YthfaljninmcopaaCam5
namespace Go.Proofs.Ythfaljninmcopaa
open Go.ChangeShapes Go.WideShapes Go.ChangeAt Go.RowKit Go.Joins
set_option maxRecDepth 100000
set_option linter.unusedVariables false
set_option linter.unusedSimpArgs false

def pdB (x y r d : Int) : Bool := dyB x y r && inB d 0 1000000
def pdN (x y r d : Int) : Int := min x (y * (d - Int.tdiv d r))
def pdV (x y r d : Int) : Int := if pdB x y r d = true then pdN x y r d else 0
theorem least_spec (a b : Int) (w : World) :
    Calls Try.prog 64 #[.int .i64 a, .int .i64 b] w fun e w' => e = .returned (.int .i64 (min a b)) ∧ w = w' := by
  by_cases h : a < b
  · have e : min a b = a := by omega
    rw [e]
    go_enter Try.func64, Try.ntmps64
    go_wp2
    go_ret
    exact ⟨rfl, rfl⟩
  · have e : min a b = b := by omega
    rw [e]
    go_enter Try.func64, Try.ntmps64
    go_wp2
    go_ret
    exact ⟨rfl, rfl⟩
theorem done_spec (d r : Int) (h0 : 0 ≤ d) (h1 : d ≤ 1000000) (h2 : 1 ≤ r) (w : World) :
    Calls Try.prog 65 #[.int .i64 d, .int .i64 r] w fun e w' => e = .returned (.int .i64 (d - Int.tdiv d r)) ∧ w = w' := by
  have q := tq_bd8 d r h2 h0
  go_enter Try.func65, Try.ntmps65
  go_wp2
  go_ret
  exact ⟨rfl, rfl⟩
set_option maxHeartbeats 800000 in
theorem place_day_impl (x y r d : Int) (b0 : -9223372036854775808 ≤ x ∧ x ≤ 9223372036854775807) (b1 : -9223372036854775808 ≤ y ∧ y ≤ 9223372036854775807) (w : World) :
    Calls Try.prog 39 #[.int .i64 x, .int .i64 y, .int .i64 r, .int .i64 d] w fun e w' => e = .returned (.tuple #[.int .i64 (pdV x y r d), .bool (pdB x y r d)]) ∧ Below w.heap.size w w' := by
  have HT := Lib.hid (fun W => daily_impl x y r b0 b1 W)
  cases hk : dyB x y r
  · rw [show pdB x y r d = false by simp [pdB, hk], show pdV x y r d = 0 by simp [pdV, pdB, hk]]
    rw [hk] at HT
    go_enter Try.func39, Try.ntmps39
    go_wp2_with fail
    refine (HT.out _).mono ?_
    rintro e w1 ⟨rfl, hb1⟩
    go_wp2
    refine bodyPost_ret (v := .tuple #[.int .i64 0, .bool false]) (by simp only [results, Try.results39]; go_simp) rfl ⟨rfl, ?_⟩
    (repeat (first | with_reducible exact Below.refl _ _ | with_reducible assumption | with_reducible refine balloc ?_ _ | with_reducible refine bdrew ?_ | with_reducible refine below_drewN ?_ _ | with_reducible refine bset ?_ ?_ _ | with_reducible exact Nat.le_refl _ | with_reducible refine bsize ?_ | (dsimp only; refine Nat.le_trans ?_ (Nat.le_add_right _ _)) | with_reducible refine Nat.le_trans ?_ (Nat.le_add_right _ _) | (with_reducible refine bstep ?_ (by assumption))))
  · cases hd : inB d 0 1000000
    · rw [show pdB x y r d = false by simp [pdB, hd], show pdV x y r d = 0 by simp [pdV, pdB, hd]]
      rw [hk] at HT
      go_enter Try.func39, Try.ntmps39
      go_wp2_with fail
      refine (HT.out _).mono ?_
      rintro e w1 ⟨rfl, hb1⟩
      go_wp2_with (go_at_call 43; refine (in_impl _ _ _ _).mono ?_; rintro e w2 ⟨rfl, rfl⟩; rw [hd])
      refine bodyPost_ret (v := .tuple #[.int .i64 0, .bool false]) (by simp only [results, Try.results39]; go_simp) rfl ⟨rfl, ?_⟩
      (repeat (first | with_reducible exact Below.refl _ _ | with_reducible assumption | with_reducible refine balloc ?_ _ | with_reducible refine bdrew ?_ | with_reducible refine below_drewN ?_ _ | with_reducible refine bset ?_ ?_ _ | with_reducible exact Nat.le_refl _ | with_reducible refine bsize ?_ | (dsimp only; refine Nat.le_trans ?_ (Nat.le_add_right _ _)) | with_reducible refine Nat.le_trans ?_ (Nat.le_add_right _ _) | (with_reducible refine bstep ?_ (by assumption))))
    · rw [show pdB x y r d = true by simp [pdB, hd, hk], show pdV x y r d = pdN x y r d by simp [pdV, pdB, hk, hd]]
      obtain ⟨h1, h2, h3⟩ := dyB_yes hk
      rw [hk] at HT
      have h4 : 0 ≤ d ∧ d ≤ 1000000 := by simpa [inB] using hd
      have q1 := tq_bd8 d r (by omega) h4.1
      have q2 : 0 ≤ y * (d - Int.tdiv d r) ∧ y * (d - Int.tdiv d r) ≤ 1000 * 1000000 := ⟨Int.mul_nonneg (by omega) (by omega), Int.mul_le_mul h2.2 (by omega) (by omega) (by omega)⟩
      clear hk
      unfold pdN
      obtain ⟨m, hm⟩ : ∃ m, m = min x (y * (d - Int.tdiv d r)) := ⟨_, rfl⟩
      by_cases hx : x ≤ y * (d - Int.tdiv d r)
      · have e : min x (y * (d - Int.tdiv d r)) = x := by omega
        rw [e] at hm ⊢
        clear hm
        go_enter Try.func39, Try.ntmps39
        go_wp2_with fail
        refine (HT.out _).mono ?_
        rintro e w1 ⟨rfl, hb1⟩
        go_wp2_with (go_at_call 43; refine (in_impl _ _ _ _).mono ?_; rintro e w2 ⟨rfl, rfl⟩; rw [hd])
        refine bodyPost_ret (v := .tuple #[.int .i64 x, .bool true]) (by simp only [results, Try.results39]; go_simp) rfl ⟨rfl, ?_⟩
        (repeat (first | with_reducible exact Below.refl _ _ | with_reducible assumption | with_reducible refine balloc ?_ _ | with_reducible refine bdrew ?_ | with_reducible refine below_drewN ?_ _ | with_reducible refine bset ?_ ?_ _ | with_reducible exact Nat.le_refl _ | with_reducible refine bsize ?_ | (dsimp only; refine Nat.le_trans ?_ (Nat.le_add_right _ _)) | with_reducible refine Nat.le_trans ?_ (Nat.le_add_right _ _) | (with_reducible refine bstep ?_ (by assumption))))
      · have e : min x (y * (d - Int.tdiv d r)) = y * (d - Int.tdiv d r) := by omega
        rw [e] at hm ⊢
        clear hm
        go_enter Try.func39, Try.ntmps39
        go_wp2_with fail
        refine (HT.out _).mono ?_
        rintro e w1 ⟨rfl, hb1⟩
        go_wp2_with (go_at_call 43; refine (in_impl _ _ _ _).mono ?_; rintro e w2 ⟨rfl, rfl⟩; rw [hd])
        refine bodyPost_ret (v := .tuple #[.int .i64 (y * (d - Int.tdiv d r)), .bool true]) (by simp only [results, Try.results39]; go_simp) rfl ⟨rfl, ?_⟩
        (repeat (first | with_reducible exact Below.refl _ _ | with_reducible assumption | with_reducible refine balloc ?_ _ | with_reducible refine bdrew ?_ | with_reducible refine below_drewN ?_ _ | with_reducible refine bset ?_ ?_ _ | with_reducible exact Nat.le_refl _ | with_reducible refine bsize ?_ | (dsimp only; refine Nat.le_trans ?_ (Nat.le_add_right _ _)) | with_reducible refine Nat.le_trans ?_ (Nat.le_add_right _ _) | (with_reducible refine bstep ?_ (by assumption))))
set_option maxHeartbeats 800000 in
theorem place_day_spec (x y r d : Int) (w : World) :
    Calls Try.prog 38 #[.int .i64 x, .int .i64 y, .int .i64 r, .int .i64 d] w fun e w' => e = .returned (.tuple #[.int .i64 (pdV x y r d), .bool (pdB x y r d)]) ∧ Below w.heap.size w w' := by
  have HT := Lib.hid (fun W => days_cv x y r W)
  cases hk : dyB x y r
  · rw [show pdB x y r d = false by simp [pdB, hk], show pdV x y r d = 0 by simp [pdV, pdB, hk]]
    rw [hk] at HT
    go_enter Try.func38, Try.ntmps38
    go_wp2_with fail
    refine (HT.out _).mono ?_
    rintro e w1 ⟨rfl, rfl⟩
    go_wp2
    refine bodyPost_ret (v := .tuple #[.int .i64 0, .bool false]) (by simp only [results, Try.results38]; go_simp) rfl ⟨rfl, ?_⟩
    (repeat (first | with_reducible exact Below.refl _ _ | with_reducible assumption | with_reducible refine balloc ?_ _ | with_reducible refine bdrew ?_ | with_reducible refine below_drewN ?_ _ | with_reducible refine bset ?_ ?_ _ | with_reducible exact Nat.le_refl _ | with_reducible refine bsize ?_ | (dsimp only; refine Nat.le_trans ?_ (Nat.le_add_right _ _)) | with_reducible refine Nat.le_trans ?_ (Nat.le_add_right _ _) | (with_reducible refine bstep ?_ (by assumption))))
  · cases hd : inB d 0 1000000
    · rw [show pdB x y r d = false by simp [pdB, hd], show pdV x y r d = 0 by simp [pdV, pdB, hd]]
      rw [hk] at HT
      go_enter Try.func38, Try.ntmps38
      go_wp2_with fail
      refine (HT.out _).mono ?_
      rintro e w1 ⟨rfl, rfl⟩
      go_wp2_with (go_at_call 50; refine (in_spec _ _ _ _).mono ?_; rintro e w2 ⟨rfl, rfl⟩; rw [hd])
      refine bodyPost_ret (v := .tuple #[.int .i64 0, .bool false]) (by simp only [results, Try.results38]; go_simp) rfl ⟨rfl, ?_⟩
      (repeat (first | with_reducible exact Below.refl _ _ | with_reducible assumption | with_reducible refine balloc ?_ _ | with_reducible refine bdrew ?_ | with_reducible refine below_drewN ?_ _ | with_reducible refine bset ?_ ?_ _ | with_reducible exact Nat.le_refl _ | with_reducible refine bsize ?_ | (dsimp only; refine Nat.le_trans ?_ (Nat.le_add_right _ _)) | with_reducible refine Nat.le_trans ?_ (Nat.le_add_right _ _) | (with_reducible refine bstep ?_ (by assumption))))
    · rw [show pdB x y r d = true by simp [pdB, hd, hk], show pdV x y r d = pdN x y r d by simp [pdV, pdB, hk, hd]]
      obtain ⟨h1, h2, h3⟩ := dyB_yes hk
      rw [hk] at HT
      have h4 : 0 ≤ d ∧ d ≤ 1000000 := by simpa [inB] using hd
      have q1 := tq_bd8 d r (by omega) h4.1
      have q2 : 0 ≤ y * (d - Int.tdiv d r) ∧ y * (d - Int.tdiv d r) ≤ 1000 * 1000000 := ⟨Int.mul_nonneg (by omega) (by omega), Int.mul_le_mul h2.2 (by omega) (by omega) (by omega)⟩
      clear hk
      unfold pdN
      have HD := Lib.hid (fun W => done_spec d r h4.1 h4.2 (by omega) W)
      have HL := Lib.hid (fun W => least_spec x (y * (d - Int.tdiv d r)) W)
      generalize min x (y * (d - Int.tdiv d r)) = m at *
      go_enter Try.func38, Try.ntmps38
      go_wp2_with fail
      refine (HT.out _).mono ?_
      rintro e w1 ⟨rfl, rfl⟩
      go_wp2_with (first | (go_at_call 50; refine (in_spec _ _ _ _).mono ?_; rintro e w2 ⟨rfl, rfl⟩; rw [hd]) | (go_at_call 65; refine (HD.out _).mono ?_; rintro e w2 ⟨rfl, rfl⟩) | (go_at_call 64; refine (HL.out _).mono ?_; rintro e w2 ⟨rfl, rfl⟩))
      refine bodyPost_ret (v := .tuple #[.int .i64 m, .bool true]) (by simp only [results, Try.results38]; go_simp) rfl ⟨rfl, ?_⟩
      (repeat (first | with_reducible exact Below.refl _ _ | with_reducible assumption | with_reducible refine balloc ?_ _ | with_reducible refine bdrew ?_ | with_reducible refine below_drewN ?_ _ | with_reducible refine bset ?_ ?_ _ | with_reducible exact Nat.le_refl _ | with_reducible refine bsize ?_ | (dsimp only; refine Nat.le_trans ?_ (Nat.le_add_right _ _)) | with_reducible refine Nat.le_trans ?_ (Nat.le_add_right _ _) | (with_reducible refine bstep ?_ (by assumption))))

end Go.Proofs.Ythfaljninmcopaa
