/- Days of a way with rests; water: of the program and of the model. -/
import Derived.Test.YthfaljninmcopaaCavA
import Derived.Test.YthfaljninmcopaaCam5
namespace Go.Proofs.Ythfaljninmcopaa
open Go.ChangeShapes Go.WideShapes Go.ChangeAt Go.RowKit Go.Joins
set_option maxRecDepth 100000
set_option linter.unusedVariables false
set_option linter.unusedSimpArgs false

def dyB (x y r : Int) : Bool := trP x && trP y && inB r 2 1000
theorem dyB_yes {x y r : Int} (h : dyB x y r = true) : (1 ≤ x ∧ x ≤ 1000) ∧ (1 ≤ y ∧ y ≤ 1000) ∧ 2 ≤ r ∧ r ≤ 1000 := by
  simp [dyB, trP, inB] at h; omega
set_option maxHeartbeats 800000 in
theorem daily_impl (x y r : Int) (b0 : -9223372036854775808 ≤ x ∧ x ≤ 9223372036854775807) (b1 : -9223372036854775808 ≤ y ∧ y ≤ 9223372036854775807) (w : World) :
    Calls Try.prog 63 #[.int .i64 x, .int .i64 y, .int .i64 r] w fun e w' => e = .returned (.bool (dyB x y r)) ∧ Below w.heap.size w w' := by
  have HT := Lib.hid (fun g W h0 h1 => tr2 x y b0 b1 g W h0 h1)
  unfold dyB
  generalize (trP x && trP y) = B at *
  cases B
  · go_enter Try.func63, Try.ntmps63
    go_wp2_with fail
    refine (HT.out _ _ (by simp [go_sem]) (by simp [go_sem])).mono ?_
    rintro e w1 ⟨rfl, hb1⟩
    go_wp2
    go_ret
    refine ⟨rfl, ?_⟩
    (repeat (first | with_reducible exact Below.refl _ _ | with_reducible assumption | with_reducible refine balloc ?_ _ | with_reducible refine bdrew ?_ | with_reducible refine below_drewN ?_ _ | with_reducible refine bset ?_ ?_ _ | with_reducible exact Nat.le_refl _ | with_reducible refine bsize ?_ | (dsimp only; refine Nat.le_trans ?_ (Nat.le_add_right _ _)) | with_reducible refine Nat.le_trans ?_ (Nat.le_add_right _ _) | (with_reducible refine bstep ?_ (by assumption))))
  · go_enter Try.func63, Try.ntmps63
    go_wp2_with fail
    refine (HT.out _ _ (by simp [go_sem]) (by simp [go_sem])).mono ?_
    rintro e w1 ⟨rfl, hb1⟩
    go_wp2_with fail
    refine (in_impl _ _ _ _).mono ?_
    rintro e w2 ⟨rfl, rfl⟩
    go_wp2
    go_ret
    refine ⟨by simp, ?_⟩
    (repeat (first | with_reducible exact Below.refl _ _ | with_reducible assumption | with_reducible refine balloc ?_ _ | with_reducible refine bdrew ?_ | with_reducible refine below_drewN ?_ _ | with_reducible refine bset ?_ ?_ _ | with_reducible exact Nat.le_refl _ | with_reducible refine bsize ?_ | (dsimp only; refine Nat.le_trans ?_ (Nat.le_add_right _ _)) | with_reducible refine Nat.le_trans ?_ (Nat.le_add_right _ _) | (with_reducible refine bstep ?_ (by assumption))))
theorem days_cv (x y r : Int) (w : World) :
    Calls Try.prog 62 #[.int .i64 x, .int .i64 y, .int .i64 r] w fun e w' => e = .returned (.bool (dyB x y r)) ∧ w = w' := by
  cases h1 : trP x
  · rw [show dyB x y r = false by simp [dyB, h1]]
    go_enter Try.func62, Try.ntmps62
    go_wp2_with (go_at_call 60; refine (one_spec _ _).mono ?_; rintro e w1 ⟨rfl, rfl⟩; rw [h1])
    go_ret
    exact ⟨rfl, rfl⟩
  · cases h2 : trP y
    · rw [show dyB x y r = false by simp [dyB, h2]]
      go_enter Try.func62, Try.ntmps62
      go_wp2_with (go_at_call 60; refine (one_spec _ _).mono ?_; rintro e w1 ⟨rfl, rfl⟩; first | rw [h1] | rw [h2])
      go_ret
      exact ⟨rfl, rfl⟩
    · rw [show dyB x y r = inB r 2 1000 by simp [dyB, h1, h2]]
      go_enter Try.func62, Try.ntmps62
      go_wp2_with (first | (go_at_call 60; refine (one_spec _ _).mono ?_; rintro e w1 ⟨rfl, rfl⟩; first | rw [h1] | rw [h2]) | (go_at_call 50; refine (in_spec _ _ _ _).mono ?_; rintro e w1 ⟨rfl, rfl⟩))
      go_ret
      exact ⟨rfl, rfl⟩

def dfN (x y r : Int) : Int := Int.tdiv (x - 1) y + Int.tdiv (Int.tdiv (x - 1) y) (r - 1) + 1
def dfV (x y r : Int) : Int := if dyB x y r = true then dfN x y r else 0
theorem tq_bd8 (x l : Int) (hl : 1 ≤ l) (hx : 0 ≤ x) : 0 ≤ Int.tdiv x l ∧ Int.tdiv x l ≤ x := by
  rw [Int.tdiv_eq_ediv_of_nonneg hx]
  exact ⟨Int.ediv_nonneg hx (by omega), Int.ediv_le_self _ hx⟩
theorem tq_up (x y : Int) (hx : 1 ≤ x) (hy : 1 ≤ y) : Int.tdiv (x + y - 1) y = Int.tdiv (x - 1) y + 1 := by
  rw [Int.tdiv_eq_ediv_of_nonneg (by omega), Int.tdiv_eq_ediv_of_nonneg (by omega)]
  have e : x + y - 1 = (x - 1) + 1 * y := by omega
  rw [e, Int.add_mul_ediv_right _ _ (by omega)]
set_option maxHeartbeats 800000 in
theorem days_impl (x y r : Int) (b0 : -9223372036854775808 ≤ x ∧ x ≤ 9223372036854775807) (b1 : -9223372036854775808 ≤ y ∧ y ≤ 9223372036854775807) (w : World) :
    Calls Try.prog 37 #[.int .i64 x, .int .i64 y, .int .i64 r] w fun e w' => e = .returned (.tuple #[.int .i64 (dfV x y r), .bool (dyB x y r)]) ∧ Below w.heap.size w w' := by
  have HT := Lib.hid (fun W => daily_impl x y r b0 b1 W)
  cases hk : dyB x y r
  · rw [show dfV x y r = 0 by simp [dfV, hk]]
    rw [hk] at HT
    go_enter Try.func37, Try.ntmps37
    go_wp2_with fail
    refine (HT.out _).mono ?_
    rintro e w1 ⟨rfl, hb1⟩
    go_wp2
    refine bodyPost_ret (v := .tuple #[.int .i64 0, .bool false]) (by simp only [results, Try.results37]; go_simp) rfl ⟨rfl, ?_⟩
    (repeat (first | with_reducible exact Below.refl _ _ | with_reducible assumption | with_reducible refine balloc ?_ _ | with_reducible refine bdrew ?_ | with_reducible refine below_drewN ?_ _ | with_reducible refine bset ?_ ?_ _ | with_reducible exact Nat.le_refl _ | with_reducible refine bsize ?_ | (dsimp only; refine Nat.le_trans ?_ (Nat.le_add_right _ _)) | with_reducible refine Nat.le_trans ?_ (Nat.le_add_right _ _) | (with_reducible refine bstep ?_ (by assumption))))
  · rw [show dfV x y r = dfN x y r by simp [dfV, hk]]
    obtain ⟨h1, h2, h3⟩ := dyB_yes hk
    rw [hk] at HT
    clear hk
    unfold dfN
    have q1 := tq_bd8 (x - 1) y h2.1 (by omega)
    have q2 := tq_bd8 (Int.tdiv (x - 1) y) (r - 1) (by omega) q1.1
    go_enter Try.func37, Try.ntmps37
    go_wp2_with fail
    refine (HT.out _).mono ?_
    rintro e w1 ⟨rfl, hb1⟩
    go_wp2
    refine bodyPost_ret (v := .tuple #[.int .i64 (Int.tdiv (x - 1) y + Int.tdiv (Int.tdiv (x - 1) y) (r - 1) + 1), .bool true]) (by simp only [results, Try.results37]; go_simp) rfl ⟨rfl, ?_⟩
    (repeat (first | with_reducible exact Below.refl _ _ | with_reducible assumption | with_reducible refine balloc ?_ _ | with_reducible refine bdrew ?_ | with_reducible refine below_drewN ?_ _ | with_reducible refine bset ?_ ?_ _ | with_reducible exact Nat.le_refl _ | with_reducible refine bsize ?_ | (dsimp only; refine Nat.le_trans ?_ (Nat.le_add_right _ _)) | with_reducible refine Nat.le_trans ?_ (Nat.le_add_right _ _) | (with_reducible refine bstep ?_ (by assumption))))
set_option maxHeartbeats 800000 in
theorem days_spec (x y r : Int) (w : World) :
    Calls Try.prog 36 #[.int .i64 x, .int .i64 y, .int .i64 r] w fun e w' => e = .returned (.tuple #[.int .i64 (dfV x y r), .bool (dyB x y r)]) ∧ Below w.heap.size w w' := by
  have HT := Lib.hid (fun W => days_cv x y r W)
  cases hk : dyB x y r
  · rw [show dfV x y r = 0 by simp [dfV, hk]]
    rw [hk] at HT
    go_enter Try.func36, Try.ntmps36
    go_wp2_with fail
    refine (HT.out _).mono ?_
    rintro e w1 ⟨rfl, rfl⟩
    go_wp2
    refine bodyPost_ret (v := .tuple #[.int .i64 0, .bool false]) (by simp only [results, Try.results36]; go_simp) rfl ⟨rfl, ?_⟩
    (repeat (first | with_reducible exact Below.refl _ _ | with_reducible assumption | with_reducible refine balloc ?_ _ | with_reducible refine bdrew ?_ | with_reducible refine below_drewN ?_ _ | with_reducible refine bset ?_ ?_ _ | with_reducible exact Nat.le_refl _ | with_reducible refine bsize ?_ | (dsimp only; refine Nat.le_trans ?_ (Nat.le_add_right _ _)) | with_reducible refine Nat.le_trans ?_ (Nat.le_add_right _ _) | (with_reducible refine bstep ?_ (by assumption))))
  · rw [show dfV x y r = dfN x y r by simp [dfV, hk]]
    obtain ⟨h1, h2, h3⟩ := dyB_yes hk
    rw [hk] at HT
    clear hk
    have q1 := tq_bd8 (x - 1) y h2.1 (by omega)
    have q2 := tq_bd8 (Int.tdiv (x - 1) y) (r - 1) (by omega) q1.1
    have e1 := tq_up x y h1.1 h2.1
    have e2 : dfN x y r = Int.tdiv (x + y - 1) y + Int.tdiv (Int.tdiv (x + y - 1) y - 1) (r - 1) := by
      unfold dfN; rw [e1, Int.add_sub_cancel]; omega
    rw [e2]
    rw [← Int.add_sub_cancel (Int.tdiv (x - 1) y) 1, ← e1] at q2
    have q3 : 1 ≤ Int.tdiv (x + y - 1) y ∧ Int.tdiv (x + y - 1) y ≤ 1000 := by rw [e1]; omega
    clear e1 e2 q1
    go_enter Try.func36, Try.ntmps36
    go_wp2_with fail
    refine (HT.out _).mono ?_
    rintro e w1 ⟨rfl, rfl⟩
    go_wp2
    refine bodyPost_ret (v := .tuple #[.int .i64 (Int.tdiv (x + y - 1) y + Int.tdiv (Int.tdiv (x + y - 1) y - 1) (r - 1)), .bool true]) (by simp only [results, Try.results36]; go_simp) rfl ⟨rfl, ?_⟩
    (repeat (first | with_reducible exact Below.refl _ _ | with_reducible assumption | with_reducible refine balloc ?_ _ | with_reducible refine bdrew ?_ | with_reducible refine below_drewN ?_ _ | with_reducible refine bset ?_ ?_ _ | with_reducible exact Nat.le_refl _ | with_reducible refine bsize ?_ | (dsimp only; refine Nat.le_trans ?_ (Nat.le_add_right _ _)) | with_reducible refine Nat.le_trans ?_ (Nat.le_add_right _ _) | (with_reducible refine bstep ?_ (by assumption))))

end Go.Proofs.Ythfaljninmcopaa
