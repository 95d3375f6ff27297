/- Contracts of OddHarmonicSum on both sides. -/
import Derived.Test.YtjmmlknbdmngeaaLawBase
import Derived.Test.YtjmmlknbdmngeaaUni5
namespace Go.Proofs.Ytjmmlknbdmngeaa
open Go.ChangeShapes Go.WideShapes Go.ChangeAt Go.RowKit Go.Joins
set_option linter.unusedVariables false
set_option linter.unusedSimpArgs false

def hNO (n : Int) : Int := if inB n 0 10 = true then (hP 2 n.toNat).1 else 0
def hDO (n : Int) : Int := if inB n 0 10 = true then (hP 2 n.toNat).2 else 0
set_option maxHeartbeats 800000 in
theorem hsO_impl (n : Int) (w : World) :
    Calls Try.prog 19 #[.int .i64 n] w fun e w' => e = .returned (.tuple #[.agg #[.int .i64 (hNO n), .int .i64 (hDO n)], .bool (inB n 0 10)]) ∧ Below w.heap.size w w' := by
  cases hin : inB n 0 10
  · have e1 : hNO n = 0 := by simp [hNO, hin]
    have e2 : hDO n = 0 := by simp [hDO, hin]
    rw [e1, e2]; clear e1 e2
    go_enter Try.func19, Try.ntmps19
    go_wp2_with (go_at_call 54; refine (in_impl _ _ _ _).mono ?_; rintro e w1 ⟨rfl, rfl⟩; rw [hin])
    refine bodyPost_ret (v := .tuple #[.agg #[.int .i64 (0), .int .i64 (0)], .bool (false)]) (by simp only [results, Try.results19]; go_simp) rfl ⟨rfl, ?_⟩
    (repeat (first | with_reducible exact Below.refl _ _ | with_reducible assumption | with_reducible refine balloc ?_ _ | with_reducible refine bdrew ?_ | with_reducible refine below_drewN ?_ _ | with_reducible refine bset ?_ ?_ _ | with_reducible exact Nat.le_refl _ | with_reducible refine bsize ?_ | (dsimp only; refine Nat.le_trans ?_ (Nat.le_add_right _ _)) | with_reducible refine Nat.le_trans ?_ (Nat.le_add_right _ _) | (with_reducible refine bstep ?_ (by assumption))))
  · have hb : 0 ≤ n ∧ n ≤ 10 := by simpa [inB] using hin
    obtain ⟨m, rfl⟩ := Int.eq_ofNat_of_zero_le hb.1
    have e1 : hNO m = (hP 2 m).1 := by simp [hNO, hin]
    have e2 : hDO m = (hP 2 m).2 := by simp [hDO, hin]
    rw [e1, e2]; clear e1 e2
    have hO : OkH 2 m := by exact Or.inr ⟨rfl, by omega⟩
    have HO := Lib.hid hO
    clear hO
    go_enter Try.func19, Try.ntmps19
    go_wp2_with (first | (go_at_call 54; refine (in_impl _ _ _ _).mono ?_; rintro e w1 ⟨rfl, rfl⟩; rw [hin]) | (go_at_call 55; refine (units_impl 2 m HO.out _).mono ?_; rintro e w1 ⟨rfl, hb1⟩; obtain ⟨kc1, kf1, kz1, ky1, kx1, kv1, ku1⟩ := bcell hb1))
    refine bodyPost_ret (v := .tuple #[.agg #[.int .i64 ((hP 2 m).1), .int .i64 ((hP 2 m).2)], .bool (true)]) (by simp only [results, Try.results19]; go_simp) rfl ⟨rfl, ?_⟩
    (repeat (first | with_reducible exact Below.refl _ _ | with_reducible assumption | with_reducible refine balloc ?_ _ | with_reducible refine bdrew ?_ | with_reducible refine below_drewN ?_ _ | with_reducible refine bset ?_ ?_ _ | with_reducible exact Nat.le_refl _ | with_reducible refine bsize ?_ | (dsimp only; refine Nat.le_trans ?_ (Nat.le_add_right _ _)) | with_reducible refine Nat.le_trans ?_ (Nat.le_add_right _ _) | (with_reducible refine bstep ?_ (by assumption))))
set_option maxHeartbeats 800000 in
theorem hsO_spec (n : Int) (w : World) :
    Calls Try.prog 18 #[.int .i64 n] w fun e w' => e = .returned (.tuple #[.agg #[.int .i64 (hNO n), .int .i64 (hDO n)], .bool (inB n 0 10)]) ∧ Below w.heap.size w w' := by
  cases hin : inB n 0 10
  · have e1 : hNO n = 0 := by simp [hNO, hin]
    have e2 : hDO n = 0 := by simp [hDO, hin]
    rw [e1, e2]; clear e1 e2
    go_enter Try.func18, Try.ntmps18
    go_wp2_with (go_at_call 52; refine (in_spec _ _ _ _).mono ?_; rintro e w1 ⟨rfl, rfl⟩; rw [hin])
    refine bodyPost_ret (v := .tuple #[.agg #[.int .i64 (0), .int .i64 (0)], .bool (false)]) (by simp only [results, Try.results18]; go_simp) rfl ⟨rfl, ?_⟩
    (repeat (first | with_reducible exact Below.refl _ _ | with_reducible assumption | with_reducible refine balloc ?_ _ | with_reducible refine bdrew ?_ | with_reducible refine below_drewN ?_ _ | with_reducible refine bset ?_ ?_ _ | with_reducible exact Nat.le_refl _ | with_reducible refine bsize ?_ | (dsimp only; refine Nat.le_trans ?_ (Nat.le_add_right _ _)) | with_reducible refine Nat.le_trans ?_ (Nat.le_add_right _ _) | (with_reducible refine bstep ?_ (by assumption))))
  · have hb : 0 ≤ n ∧ n ≤ 10 := by simpa [inB] using hin
    obtain ⟨m, rfl⟩ := Int.eq_ofNat_of_zero_le hb.1
    have e1 : hNO m = (hP 2 m).1 := by simp [hNO, hin]
    have e2 : hDO m = (hP 2 m).2 := by simp [hDO, hin]
    rw [e1, e2]; clear e1 e2
    have hO : OkH 2 m := by exact Or.inr ⟨rfl, by omega⟩
    have HO := Lib.hid hO
    clear hO
    go_enter Try.func18, Try.ntmps18
    go_wp2_with (first | (go_at_call 52; refine (in_spec _ _ _ _).mono ?_; rintro e w1 ⟨rfl, rfl⟩; rw [hin]) | (go_at_call 53; refine (harm_spec 2 m HO.out _).mono ?_; rintro e w1 ⟨rfl, hb1⟩; obtain ⟨kc1, kf1, kz1, ky1, kx1, kv1, ku1⟩ := bcell hb1))
    refine bodyPost_ret (v := .tuple #[.agg #[.int .i64 ((hP 2 m).1), .int .i64 ((hP 2 m).2)], .bool (true)]) (by simp only [results, Try.results18]; go_simp) rfl ⟨rfl, ?_⟩
    (repeat (first | with_reducible exact Below.refl _ _ | with_reducible assumption | with_reducible refine balloc ?_ _ | with_reducible refine bdrew ?_ | with_reducible refine below_drewN ?_ _ | with_reducible refine bset ?_ ?_ _ | with_reducible exact Nat.le_refl _ | with_reducible refine bsize ?_ | (dsimp only; refine Nat.le_trans ?_ (Nat.le_add_right _ _)) | with_reducible refine Nat.le_trans ?_ (Nat.le_add_right _ _) | (with_reducible refine bstep ?_ (by assumption))))
end Go.Proofs.Ytjmmlknbdmngeaa
