/- Contracts of HarmonicSum on both sides. -/
import Derived.Test.YtgpbkjakmbmccaaLawBase
import Derived.Test.YtgpbkjakmbmccaaUni5
namespace Go.Proofs.Ytgpbkjakmbmccaa
open Go.ChangeShapes Go.WideShapes Go.ChangeAt Go.RowKit Go.Joins
set_option linter.unusedVariables false
set_option linter.unusedSimpArgs false

def hNH (n : Int) : Int := if inB n 0 20 = true then (hP 1 n.toNat).1 else 0
def hDH (n : Int) : Int := if inB n 0 20 = true then (hP 1 n.toNat).2 else 0
set_option maxHeartbeats 800000 in
theorem hsH_impl (n : Int) (w : World) :
    Calls Try.prog 81 #[.int .i64 n] w fun e w' => e = .returned (.tuple #[.agg #[.int .i64 (hNH n), .int .i64 (hDH n)], .bool (inB n 0 20)]) ∧ Below w.heap.size w w' := by
  cases hin : inB n 0 20
  · have e1 : hNH n = 0 := by simp [hNH, hin]
    have e2 : hDH n = 0 := by simp [hDH, hin]
    rw [e1, e2]; clear e1 e2
    go_enter Try.func81, Try.ntmps81
    go_wp2_with (go_at_call 49; refine (in_impl _ _ _ _).mono ?_; rintro e w1 ⟨rfl, rfl⟩; rw [hin])
    refine bodyPost_ret (v := .tuple #[.agg #[.int .i64 (0), .int .i64 (0)], .bool (false)]) (by simp only [results, Try.results81]; go_simp) rfl ⟨rfl, ?_⟩
    (repeat (first | with_reducible exact Below.refl _ _ | with_reducible assumption | with_reducible refine balloc ?_ _ | with_reducible refine bdrew ?_ | with_reducible refine below_drewN ?_ _ | with_reducible refine bset ?_ ?_ _ | with_reducible exact Nat.le_refl _ | with_reducible refine bsize ?_ | (dsimp only; refine Nat.le_trans ?_ (Nat.le_add_right _ _)) | with_reducible refine Nat.le_trans ?_ (Nat.le_add_right _ _) | (with_reducible refine bstep ?_ (by assumption))))
  · have hb : 0 ≤ n ∧ n ≤ 20 := by simpa [inB] using hin
    obtain ⟨m, rfl⟩ := Int.eq_ofNat_of_zero_le hb.1
    have e1 : hNH m = (hP 1 m).1 := by simp [hNH, hin]
    have e2 : hDH m = (hP 1 m).2 := by simp [hDH, hin]
    rw [e1, e2]; clear e1 e2
    have hO : OkH 1 m := by exact Or.inl ⟨rfl, by omega⟩
    have HO := Lib.hid hO
    clear hO
    go_enter Try.func81, Try.ntmps81
    go_wp2_with (first | (go_at_call 49; refine (in_impl _ _ _ _).mono ?_; rintro e w1 ⟨rfl, rfl⟩; rw [hin]) | (go_at_call 109; refine (units_impl 1 m HO.out _).mono ?_; rintro e w1 ⟨rfl, hb1⟩; obtain ⟨kc1, kf1, kz1, ky1, kx1, kv1, ku1⟩ := bcell hb1))
    refine bodyPost_ret (v := .tuple #[.agg #[.int .i64 ((hP 1 m).1), .int .i64 ((hP 1 m).2)], .bool (true)]) (by simp only [results, Try.results81]; go_simp) rfl ⟨rfl, ?_⟩
    (repeat (first | with_reducible exact Below.refl _ _ | with_reducible assumption | with_reducible refine balloc ?_ _ | with_reducible refine bdrew ?_ | with_reducible refine below_drewN ?_ _ | with_reducible refine bset ?_ ?_ _ | with_reducible exact Nat.le_refl _ | with_reducible refine bsize ?_ | (dsimp only; refine Nat.le_trans ?_ (Nat.le_add_right _ _)) | with_reducible refine Nat.le_trans ?_ (Nat.le_add_right _ _) | (with_reducible refine bstep ?_ (by assumption))))
end Go.Proofs.Ytgpbkjakmbmccaa
