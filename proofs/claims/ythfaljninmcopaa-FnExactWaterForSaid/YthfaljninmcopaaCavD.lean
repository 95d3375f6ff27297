/- Days of a way with rests; water: of the program and of the model. -/
import Derived.Test.YthfaljninmcopaaCavB
import Derived.Test.YthfaljninmcopaaCam5
namespace Go.Proofs.Ythfaljninmcopaa
open Go.ChangeShapes Go.WideShapes Go.ChangeAt Go.RowKit Go.Joins
set_option maxRecDepth 100000
set_option linter.unusedVariables false
set_option linter.unusedSimpArgs false

/-- Water, and the camels that lack. -/
def wfB (p c d e : Int) : Bool := inB p 0 1000 && inB c 0 1000 && inB d 0 1000 && trP e
def wfW (p c d e : Int) : Int := if wfB p c d e = true then p * d else 0
def wfL (p c d e : Int) : Int := if wfB p c d e = true then max 0 (Int.tdiv (p * d + e - 1) e - c) else 0
theorem wfB_yes {p c d e : Int} (h : wfB p c d e = true) : (0 ≤ p ∧ p ≤ 1000) ∧ (0 ≤ c ∧ c ≤ 1000) ∧ (0 ≤ d ∧ d ≤ 1000) ∧ 1 ≤ e ∧ e ≤ 1000 := by
  simp [wfB, trP, inB] at h; omega
set_option maxHeartbeats 1600000 in
theorem water_impl (p c d e : Int) (b3 : -9223372036854775808 ≤ e ∧ e ≤ 9223372036854775807) (w : World) :
    Calls Try.prog 41 #[.int .i64 p, .int .i64 c, .int .i64 d, .int .i64 e] w fun x w' => x = .returned (.tuple #[.int .i64 (wfW p c d e), .int .i64 (wfL p c d e), .bool (wfB p c d e)]) ∧ Below w.heap.size w w' := by
  have HT := Lib.hid (fun g W h0 => tr1 e b3 g W h0)
  cases h1 : inB p 0 1000
  · rw [show wfB p c d e = false by simp [wfB, h1], show wfW p c d e = 0 by simp [wfW, wfB, h1], show wfL p c d e = 0 by simp [wfL, wfB, h1]]
    go_enter Try.func41, Try.ntmps41
    go_wp2_with (go_at_call 43; refine (in_impl _ _ _ _).mono ?_; rintro e w2 ⟨rfl, rfl⟩; first | rw [h1])
    refine bodyPost_ret (v := .tuple #[.int .i64 0, .int .i64 0, .bool false]) (by simp only [results, Try.results41]; go_simp) rfl ⟨rfl, ?_⟩
    (repeat (first | with_reducible exact Below.refl _ _ | with_reducible assumption | with_reducible refine balloc ?_ _ | with_reducible refine bdrew ?_ | with_reducible refine below_drewN ?_ _ | with_reducible refine bset ?_ ?_ _ | with_reducible exact Nat.le_refl _ | with_reducible refine bsize ?_ | (dsimp only; refine Nat.le_trans ?_ (Nat.le_add_right _ _)) | with_reducible refine Nat.le_trans ?_ (Nat.le_add_right _ _) | (with_reducible refine bstep ?_ (by assumption))))
  · skip
    cases h2 : inB c 0 1000
    · rw [show wfB p c d e = false by simp [wfB, h2], show wfW p c d e = 0 by simp [wfW, wfB, h2], show wfL p c d e = 0 by simp [wfL, wfB, h2]]
      go_enter Try.func41, Try.ntmps41
      go_wp2_with (go_at_call 43; refine (in_impl _ _ _ _).mono ?_; rintro e w2 ⟨rfl, rfl⟩; first | rw [h1] | rw [h2])
      refine bodyPost_ret (v := .tuple #[.int .i64 0, .int .i64 0, .bool false]) (by simp only [results, Try.results41]; go_simp) rfl ⟨rfl, ?_⟩
      (repeat (first | with_reducible exact Below.refl _ _ | with_reducible assumption | with_reducible refine balloc ?_ _ | with_reducible refine bdrew ?_ | with_reducible refine below_drewN ?_ _ | with_reducible refine bset ?_ ?_ _ | with_reducible exact Nat.le_refl _ | with_reducible refine bsize ?_ | (dsimp only; refine Nat.le_trans ?_ (Nat.le_add_right _ _)) | with_reducible refine Nat.le_trans ?_ (Nat.le_add_right _ _) | (with_reducible refine bstep ?_ (by assumption))))
    · skip
      cases h3 : inB d 0 1000
      · rw [show wfB p c d e = false by simp [wfB, h3], show wfW p c d e = 0 by simp [wfW, wfB, h3], show wfL p c d e = 0 by simp [wfL, wfB, h3]]
        go_enter Try.func41, Try.ntmps41
        go_wp2_with (go_at_call 43; refine (in_impl _ _ _ _).mono ?_; rintro e w2 ⟨rfl, rfl⟩; first | rw [h1] | rw [h2] | rw [h3])
        refine bodyPost_ret (v := .tuple #[.int .i64 0, .int .i64 0, .bool false]) (by simp only [results, Try.results41]; go_simp) rfl ⟨rfl, ?_⟩
        (repeat (first | with_reducible exact Below.refl _ _ | with_reducible assumption | with_reducible refine balloc ?_ _ | with_reducible refine bdrew ?_ | with_reducible refine below_drewN ?_ _ | with_reducible refine bset ?_ ?_ _ | with_reducible exact Nat.le_refl _ | with_reducible refine bsize ?_ | (dsimp only; refine Nat.le_trans ?_ (Nat.le_add_right _ _)) | with_reducible refine Nat.le_trans ?_ (Nat.le_add_right _ _) | (with_reducible refine bstep ?_ (by assumption))))
      · skip
        cases h4 : trP e
        · rw [show wfB p c d e = false by simp [wfB, h4], show wfW p c d e = 0 by simp [wfW, wfB, h4], show wfL p c d e = 0 by simp [wfL, wfB, h4]]
          go_enter Try.func41, Try.ntmps41
          go_wp2_with (first | (go_at_call 43; refine (in_impl _ _ _ _).mono ?_; rintro e w2 ⟨rfl, rfl⟩; first | rw [h1] | rw [h2] | rw [h3]) | (go_at_call 44; refine (HT.out _ _ (by simp [go_sem])).mono ?_; rintro e w2 ⟨rfl, hb2⟩; rw [h4]))
          refine bodyPost_ret (v := .tuple #[.int .i64 0, .int .i64 0, .bool false]) (by simp only [results, Try.results41]; go_simp) rfl ⟨rfl, ?_⟩
          (repeat (first | with_reducible exact Below.refl _ _ | with_reducible assumption | with_reducible refine balloc ?_ _ | with_reducible refine bdrew ?_ | with_reducible refine below_drewN ?_ _ | with_reducible refine bset ?_ ?_ _ | with_reducible exact Nat.le_refl _ | with_reducible refine bsize ?_ | (dsimp only; refine Nat.le_trans ?_ (Nat.le_add_right _ _)) | with_reducible refine Nat.le_trans ?_ (Nat.le_add_right _ _) | (with_reducible refine bstep ?_ (by assumption))))
        · skip
          have hk : wfB p c d e = true := by simp [wfB, h1, h2, h3, h4]
          obtain ⟨p0, c0, d0, e0⟩ := wfB_yes hk
          rw [hk, show wfW p c d e = p * d by simp [wfW, hk], show wfL p c d e = max 0 (Int.tdiv (p * d + e - 1) e - c) by simp [wfL, hk]]
          clear hk
          have q1 : 0 ≤ p * d ∧ p * d ≤ 1000 * 1000 := ⟨Int.mul_nonneg p0.1 d0.1, Int.mul_le_mul p0.2 d0.2 d0.1 (by omega)⟩
          have q2 := tq_bd8 (p * d + e - 1) e e0.1 (by omega)
          by_cases hx : 0 < Int.tdiv (p * d + e - 1) e - c
          · rw [show max 0 (Int.tdiv (p * d + e - 1) e - c) = Int.tdiv (p * d + e - 1) e - c by omega]
            go_enter Try.func41, Try.ntmps41
            go_wp2_with (first | (go_at_call 43; refine (in_impl _ _ _ _).mono ?_; rintro e w2 ⟨rfl, rfl⟩; first | rw [h1] | rw [h2] | rw [h3]) | (go_at_call 44; refine (HT.out _ _ (by simp [go_sem])).mono ?_; rintro e w2 ⟨rfl, hb2⟩; rw [h4]))
            refine bodyPost_ret (v := .tuple #[.int .i64 (p * d), .int .i64 (Int.tdiv (p * d + e - 1) e - c), .bool true]) (by simp only [results, Try.results41]; go_simp) rfl ⟨rfl, ?_⟩
            (repeat (first | with_reducible exact Below.refl _ _ | with_reducible assumption | with_reducible refine balloc ?_ _ | with_reducible refine bdrew ?_ | with_reducible refine below_drewN ?_ _ | with_reducible refine bset ?_ ?_ _ | with_reducible exact Nat.le_refl _ | with_reducible refine bsize ?_ | (dsimp only; refine Nat.le_trans ?_ (Nat.le_add_right _ _)) | with_reducible refine Nat.le_trans ?_ (Nat.le_add_right _ _) | (with_reducible refine bstep ?_ (by assumption))))
          · rw [show max 0 (Int.tdiv (p * d + e - 1) e - c) = 0 by omega]
            go_enter Try.func41, Try.ntmps41
            go_wp2_with (first | (go_at_call 43; refine (in_impl _ _ _ _).mono ?_; rintro e w2 ⟨rfl, rfl⟩; first | rw [h1] | rw [h2] | rw [h3]) | (go_at_call 44; refine (HT.out _ _ (by simp [go_sem])).mono ?_; rintro e w2 ⟨rfl, hb2⟩; rw [h4]))
            refine bodyPost_ret (v := .tuple #[.int .i64 (p * d), .int .i64 0, .bool true]) (by simp only [results, Try.results41]; go_simp) rfl ⟨rfl, ?_⟩
            (repeat (first | with_reducible exact Below.refl _ _ | with_reducible assumption | with_reducible refine balloc ?_ _ | with_reducible refine bdrew ?_ | with_reducible refine below_drewN ?_ _ | with_reducible refine bset ?_ ?_ _ | with_reducible exact Nat.le_refl _ | with_reducible refine bsize ?_ | (dsimp only; refine Nat.le_trans ?_ (Nat.le_add_right _ _)) | with_reducible refine Nat.le_trans ?_ (Nat.le_add_right _ _) | (with_reducible refine bstep ?_ (by assumption))))
set_option maxHeartbeats 1600000 in
theorem water_spec (p c d e : Int) (b3 : -9223372036854775808 ≤ e ∧ e ≤ 9223372036854775807) (w : World) :
    Calls Try.prog 40 #[.int .i64 p, .int .i64 c, .int .i64 d, .int .i64 e] w fun x w' => x = .returned (.tuple #[.int .i64 (wfW p c d e), .int .i64 (wfL p c d e), .bool (wfB p c d e)]) ∧ Below w.heap.size w w' := by
  cases h1 : inB p 0 1000
  · rw [show wfB p c d e = false by simp [wfB, h1], show wfW p c d e = 0 by simp [wfW, wfB, h1], show wfL p c d e = 0 by simp [wfL, wfB, h1]]
    go_enter Try.func40, Try.ntmps40
    go_wp2_with (go_at_call 50; refine (in_spec _ _ _ _).mono ?_; rintro e w2 ⟨rfl, rfl⟩; first | rw [h1])
    refine bodyPost_ret (v := .tuple #[.int .i64 0, .int .i64 0, .bool false]) (by simp only [results, Try.results40]; go_simp) rfl ⟨rfl, ?_⟩
    (repeat (first | with_reducible exact Below.refl _ _ | with_reducible assumption | with_reducible refine balloc ?_ _ | with_reducible refine bdrew ?_ | with_reducible refine below_drewN ?_ _ | with_reducible refine bset ?_ ?_ _ | with_reducible exact Nat.le_refl _ | with_reducible refine bsize ?_ | (dsimp only; refine Nat.le_trans ?_ (Nat.le_add_right _ _)) | with_reducible refine Nat.le_trans ?_ (Nat.le_add_right _ _) | (with_reducible refine bstep ?_ (by assumption))))
  · skip
    cases h2 : inB c 0 1000
    · rw [show wfB p c d e = false by simp [wfB, h2], show wfW p c d e = 0 by simp [wfW, wfB, h2], show wfL p c d e = 0 by simp [wfL, wfB, h2]]
      go_enter Try.func40, Try.ntmps40
      go_wp2_with (go_at_call 50; refine (in_spec _ _ _ _).mono ?_; rintro e w2 ⟨rfl, rfl⟩; first | rw [h1] | rw [h2])
      refine bodyPost_ret (v := .tuple #[.int .i64 0, .int .i64 0, .bool false]) (by simp only [results, Try.results40]; go_simp) rfl ⟨rfl, ?_⟩
      (repeat (first | with_reducible exact Below.refl _ _ | with_reducible assumption | with_reducible refine balloc ?_ _ | with_reducible refine bdrew ?_ | with_reducible refine below_drewN ?_ _ | with_reducible refine bset ?_ ?_ _ | with_reducible exact Nat.le_refl _ | with_reducible refine bsize ?_ | (dsimp only; refine Nat.le_trans ?_ (Nat.le_add_right _ _)) | with_reducible refine Nat.le_trans ?_ (Nat.le_add_right _ _) | (with_reducible refine bstep ?_ (by assumption))))
    · skip
      cases h3 : inB d 0 1000
      · rw [show wfB p c d e = false by simp [wfB, h3], show wfW p c d e = 0 by simp [wfW, wfB, h3], show wfL p c d e = 0 by simp [wfL, wfB, h3]]
        go_enter Try.func40, Try.ntmps40
        go_wp2_with (go_at_call 50; refine (in_spec _ _ _ _).mono ?_; rintro e w2 ⟨rfl, rfl⟩; first | rw [h1] | rw [h2] | rw [h3])
        refine bodyPost_ret (v := .tuple #[.int .i64 0, .int .i64 0, .bool false]) (by simp only [results, Try.results40]; go_simp) rfl ⟨rfl, ?_⟩
        (repeat (first | with_reducible exact Below.refl _ _ | with_reducible assumption | with_reducible refine balloc ?_ _ | with_reducible refine bdrew ?_ | with_reducible refine below_drewN ?_ _ | with_reducible refine bset ?_ ?_ _ | with_reducible exact Nat.le_refl _ | with_reducible refine bsize ?_ | (dsimp only; refine Nat.le_trans ?_ (Nat.le_add_right _ _)) | with_reducible refine Nat.le_trans ?_ (Nat.le_add_right _ _) | (with_reducible refine bstep ?_ (by assumption))))
      · skip
        cases h4 : trP e
        · rw [show wfB p c d e = false by simp [wfB, h4], show wfW p c d e = 0 by simp [wfW, wfB, h4], show wfL p c d e = 0 by simp [wfL, wfB, h4]]
          go_enter Try.func40, Try.ntmps40
          go_wp2_with (first | (go_at_call 50; refine (in_spec _ _ _ _).mono ?_; rintro e w2 ⟨rfl, rfl⟩; first | rw [h1] | rw [h2] | rw [h3]) | (go_at_call 60; refine (one_spec _ _).mono ?_; rintro e w2 ⟨rfl, rfl⟩; rw [h4]))
          refine bodyPost_ret (v := .tuple #[.int .i64 0, .int .i64 0, .bool false]) (by simp only [results, Try.results40]; go_simp) rfl ⟨rfl, ?_⟩
          (repeat (first | with_reducible exact Below.refl _ _ | with_reducible assumption | with_reducible refine balloc ?_ _ | with_reducible refine bdrew ?_ | with_reducible refine below_drewN ?_ _ | with_reducible refine bset ?_ ?_ _ | with_reducible exact Nat.le_refl _ | with_reducible refine bsize ?_ | (dsimp only; refine Nat.le_trans ?_ (Nat.le_add_right _ _)) | with_reducible refine Nat.le_trans ?_ (Nat.le_add_right _ _) | (with_reducible refine bstep ?_ (by assumption))))
        · skip
          have hk : wfB p c d e = true := by simp [wfB, h1, h2, h3, h4]
          obtain ⟨p0, c0, d0, e0⟩ := wfB_yes hk
          rw [hk, show wfW p c d e = p * d by simp [wfW, hk], show wfL p c d e = max 0 (Int.tdiv (p * d + e - 1) e - c) by simp [wfL, hk]]
          clear hk
          have q1 : 0 ≤ p * d ∧ p * d ≤ 1000 * 1000 := ⟨Int.mul_nonneg p0.1 d0.1, Int.mul_le_mul p0.2 d0.2 d0.1 (by omega)⟩
          have q2 := tq_bd8 (p * d + e - 1) e e0.1 (by omega)
          have HM := Lib.hid (fun W => most_spec 0 (Int.tdiv (p * d + e - 1) e - c) W)
          generalize max 0 (Int.tdiv (p * d + e - 1) e - c) = m at *
          go_enter Try.func40, Try.ntmps40
          go_wp2_with (first | (go_at_call 50; refine (in_spec _ _ _ _).mono ?_; rintro e w2 ⟨rfl, rfl⟩; first | rw [h1] | rw [h2] | rw [h3]) | (go_at_call 60; refine (one_spec _ _).mono ?_; rintro e w2 ⟨rfl, rfl⟩; rw [h4]) | (go_at_call 66; refine (HM.out _).mono ?_; rintro e w2 ⟨rfl, rfl⟩))
          refine bodyPost_ret (v := .tuple #[.int .i64 (p * d), .int .i64 m, .bool true]) (by simp only [results, Try.results40]; go_simp) rfl ⟨rfl, ?_⟩
          (repeat (first | with_reducible exact Below.refl _ _ | with_reducible assumption | with_reducible refine balloc ?_ _ | with_reducible refine bdrew ?_ | with_reducible refine below_drewN ?_ _ | with_reducible refine bset ?_ ?_ _ | with_reducible exact Nat.le_refl _ | with_reducible refine bsize ?_ | (dsimp only; refine Nat.le_trans ?_ (Nat.le_add_right _ _)) | with_reducible refine Nat.le_trans ?_ (Nat.le_add_right _ _) | (with_reducible refine bstep ?_ (by assumption))))
end Go.Proofs.Ythfaljninmcopaa
