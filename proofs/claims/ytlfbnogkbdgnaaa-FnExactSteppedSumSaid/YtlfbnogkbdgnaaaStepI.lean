/- SteppedSum: the program's contract whole; the model's where there are no amounts. -/
import Derived.Test.YtlfbnogkbdgnaaaStep
namespace Go.Proofs.Ytlfbnogkbdgnaaa
open Go.ChangeShapes Go.WideShapes Go.ChangeAt Go.RowKit Go.Joins
set_option linter.unusedVariables false
set_option linter.unusedSimpArgs false

set_option maxHeartbeats 800000 in
theorem step_impl_0 (n d p q k : Int) (hin : inB k 0 1000 = false) (w : World) :
    Calls Try.prog 55 #[.agg #[.int .i64 n, .int .i64 d], .agg #[.int .i64 p, .int .i64 q], .int .i64 k] w fun e w' => e = .returned (.tuple #[.agg #[.int .i64 (0), .int .i64 (0)], .bool (false)]) ∧ Below w.heap.size w w' := by
  go_enter Try.func55, Try.ntmps55
  go_wp2_with (go_at_call 60; refine (in_impl _ _ _ _).mono ?_; rintro e w1 ⟨rfl, rfl⟩; rw [hin])
  refine bodyPost_ret (v := .tuple #[.agg #[.int .i64 (0), .int .i64 (0)], .bool (false)]) (by simp only [results, Try.results55]; go_simp) rfl ⟨rfl, ?_⟩
  (repeat (first | exact Below.refl _ _ | assumption | refine balloc ?_ _ | refine bdrew ?_ | refine bset ?_ ?_ _ | exact Nat.le_refl _ | refine bsize ?_ | (dsimp only; refine Nat.le_trans ?_ (Nat.le_add_right _ _)) | refine Nat.le_trans ?_ (Nat.le_add_right _ _) | (refine bstep ?_ (by assumption))))

theorem step_impl (n d : Int) (bn : -9223372036854775808 ≤ n ∧ n ≤ 9223372036854775807) (bd : -9223372036854775808 ≤ d ∧ d ≤ 9223372036854775807) (p q : Int) (bp : -9223372036854775808 ≤ p ∧ p ≤ 9223372036854775807) (bq : -9223372036854775808 ≤ q ∧ q ≤ 9223372036854775807) (k : Int) (w : World) :
    Calls Try.prog 55 #[.agg #[.int .i64 n, .int .i64 d], .agg #[.int .i64 p, .int .i64 q], .int .i64 k] w fun e w' => e = .returned (.tuple #[.agg #[.int .i64 (twoN (stK n d p q k) (stN n d p q k) (stD n d p q k)), .int .i64 (twoD (stK n d p q k) (stN n d p q k) (stD n d p q k))], .bool (twoB (stK n d p q k) (stN n d p q k) (stD n d p q k))]) ∧ Below w.heap.size w w' := by
  have hzero : stK n d p q k = false → (fun (e : Ending) w' => e = .returned (.tuple #[.agg #[.int .i64 (twoN (stK n d p q k) (stN n d p q k) (stD n d p q k)), .int .i64 (twoD (stK n d p q k) (stN n d p q k) (stD n d p q k))], .bool (twoB (stK n d p q k) (stN n d p q k) (stD n d p q k))]) ∧ Below w.heap.size w w') = fun e w' => e = .returned (.tuple #[.agg #[.int .i64 (0), .int .i64 (0)], .bool (false)]) ∧ Below w.heap.size w w' := by
    intro h; obtain ⟨e1, e2, e3⟩ := two_no (stN n d p q k) (stD n d p q k); rw [h, e1, e2, e3]
  cases hin : inB k 0 1000
  · rw [hzero (by simp [stK, hin])]; exact step_impl_0 n d p q k hin w
  · have hb : 0 ≤ k ∧ k ≤ 1000 := by simpa [inB] using hin
    cases hB1 : twoB (amB n d) (n * k) d
    · rw [hzero (stK_1 n d p q k hB1)]; exact step_impl_1 n d bn bd p q bp bq k hb.1 hb.2 hB1 w
    · cases hB2 : twoB (amB p q) (p * (k * (k - 1) / 2)) q
      · rw [hzero (stK_2 n d p q k hB2)]; exact step_impl_2 n d bn bd p q bp bq k hb.1 hb.2 hB1 hB2 w
      · obtain ⟨e1, e2, e3⟩ := two_yes (stN n d p q k) (stD n d p q k)
        rw [(stK_3 n d p q k hB1 hB2 hin).1, e1, e2, e3]
        exact step_impl_3 n d bn bd p q bp bq k hb.1 hb.2 hB1 hB2 w

set_option maxHeartbeats 800000 in
theorem step_spec_0 (n d p q k : Int) (hk : okk n d p q = false) (w : World) :
    Calls Try.prog 54 #[.agg #[.int .i64 n, .int .i64 d], .agg #[.int .i64 p, .int .i64 q], .int .i64 k] w fun e w' => e = .returned (.tuple #[.agg #[.int .i64 (0), .int .i64 (0)], .bool (false)]) ∧ Below w.heap.size w w' := by
  go_enter Try.func54, Try.ntmps54
  (go_wp2_with fail; refine (two_spec _ _ _ _ _).mono ?_; rintro e w1 ⟨rfl, hb1⟩; rw [hk]; have ha1 := hb1; obtain ⟨kc1, kf1, kz1, ky1, kx1, kv1, ku1⟩ := bcell hb1)
  go_wp2
  refine bodyPost_ret (v := .tuple #[.agg #[.int .i64 (0), .int .i64 (0)], .bool (false)]) (by simp only [results, Try.results54]; go_simp) rfl ⟨rfl, ?_⟩
  (repeat (first | exact Below.refl _ _ | assumption | refine balloc ?_ _ | refine bdrew ?_ | refine bset ?_ ?_ _ | exact Nat.le_refl _ | refine bsize ?_ | (dsimp only; refine Nat.le_trans ?_ (Nat.le_add_right _ _)) | refine Nat.le_trans ?_ (Nat.le_add_right _ _) | (refine bstep ?_ (by assumption))))
set_option maxHeartbeats 800000 in
theorem step_spec_1 (n d p q k : Int) (hk : okk n d p q = true) (hin : inB k 0 1000 = false) (w : World) :
    Calls Try.prog 54 #[.agg #[.int .i64 n, .int .i64 d], .agg #[.int .i64 p, .int .i64 q], .int .i64 k] w fun e w' => e = .returned (.tuple #[.agg #[.int .i64 (0), .int .i64 (0)], .bool (false)]) ∧ Below w.heap.size w w' := by
  go_enter Try.func54, Try.ntmps54
  (go_wp2_with fail; refine (two_spec _ _ _ _ _).mono ?_; rintro e w1 ⟨rfl, hb1⟩; rw [hk]; have ha1 := hb1; obtain ⟨kc1, kf1, kz1, ky1, kx1, kv1, ku1⟩ := bcell hb1)
  go_wp2_with (go_at_call 58; refine (in_spec _ _ _ _).mono ?_; rintro e w2 ⟨rfl, rfl⟩; rw [hin])
  refine bodyPost_ret (v := .tuple #[.agg #[.int .i64 (0), .int .i64 (0)], .bool (false)]) (by simp only [results, Try.results54]; go_simp) rfl ⟨rfl, ?_⟩
  (repeat (first | exact Below.refl _ _ | assumption | refine balloc ?_ _ | refine bdrew ?_ | refine bset ?_ ?_ _ | exact Nat.le_refl _ | refine bsize ?_ | (dsimp only; refine Nat.le_trans ?_ (Nat.le_add_right _ _)) | refine Nat.le_trans ?_ (Nat.le_add_right _ _) | (refine bstep ?_ (by assumption))))

end Go.Proofs.Ytlfbnogkbdgnaaa
