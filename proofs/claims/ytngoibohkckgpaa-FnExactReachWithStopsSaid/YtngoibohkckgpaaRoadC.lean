/- Roads: IsRoad of the model; the law. -/
import Derived.Test.YtngoibohkckgpaaRoadB
import Derived.Deep.RegionHeld3
import Derived.Deep.DeepCutAuto
namespace Go.Proofs.Ytngoibohkckgpaa
open Go.ChangeShapes Go.WideShapes Go.ChangeAt Go.RowKit Go.Joins
set_option maxRecDepth 100000
set_option linter.unusedVariables false
set_option linter.unusedSimpArgs false


set_option maxHeartbeats 1600000 in
theorem weGood_spec (n d : Int) (bn : -9223372036854775808 ≤ n ∧ n ≤ 9223372036854775807) (bd : -9223372036854775808 ≤ d ∧ d ≤ 9223372036854775807) (v : Value) (l : List (Int × Int)) (w : World) (h : RowG 2 fAmt w v l) :
    Calls Try.prog 31 #[.agg #[.int .i64 n, .int .i64 d, v]] w fun e w' => e = .returned (.bool (rdB n d l)) ∧ Below w.heap.size w w' := by
  rw [← good_is]
  have HP := Lib.hid (fun W => rp_spec n d bn bd W)
  cases hw : rpB n d
  · have e : goodB n d l = false := by simp [goodB, hw]
    rw [e]; clear e
    rw [hw] at HP
    obtain ⟨a0, c0, rfl, hl1, hl2⟩ := row_shape h
    clear h hw
    go_enter Try.func31, Try.ntmps31
    go_wp2_with fail
    refine (HP.out _).mono ?_
    rintro e w1 ⟨rfl, hb1⟩
    go_wp2
    go_ret
    refine ⟨rfl, ?_⟩
    (repeat (first | with_reducible exact Below.refl _ _ | with_reducible assumption | with_reducible refine balloc ?_ _ | with_reducible refine bdrew ?_ | with_reducible refine below_drewN ?_ _ | with_reducible refine bset ?_ ?_ _ | with_reducible exact Nat.le_refl _ | with_reducible refine bsize ?_ | (dsimp only; refine Nat.le_trans ?_ (Nat.le_add_right _ _)) | with_reducible refine Nat.le_trans ?_ (Nat.le_add_right _ _) | (with_reducible refine bstep ?_ (by assumption))))
  by_cases h16 : l.length ≤ 16
  · have e : goodB n d l = (List.range l.length).all (gdAt n d l) := by simp [goodB, hw, h16]
    rw [e]; clear e
    rcases h with ⟨rfl, rfl⟩ | ⟨a, cap, rfl, hL⟩
    · rw [hw] at HP
      clear hw h16
      simp only [List.length_nil, List.range_zero, List.all_nil]
      go_enter Try.func31, Try.ntmps31
      go_wp2_with fail
      refine (HP.out _).mono ?_
      rintro e w1 ⟨rfl, hb1⟩
      have A1 := (RdAt.new w n d (.slice none 0 0) 34).later hb1
      have ha1 : Below w.heap.size w w1 := by (repeat (first | with_reducible exact Below.refl _ _ | with_reducible assumption | with_reducible refine balloc ?_ _ | with_reducible refine bdrew ?_ | with_reducible refine below_drewN ?_ _ | with_reducible refine bset ?_ ?_ _ | with_reducible exact Nat.le_refl _ | with_reducible refine bsize ?_ | (dsimp only; refine Nat.le_trans ?_ (Nat.le_add_right _ _)) | with_reducible refine Nat.le_trans ?_ (Nat.le_add_right _ _) | (with_reducible refine bstep ?_ (by assumption))))
      obtain ⟨x0, x1, x2, xz⟩ := A1
      go_wp2
      go_loopw [3, 4, 18] (fun u3 u4 i wr => i = .int .i64 0 ∧ wr = w1) (fun _ _ _ _ => 0)
      case atStart => exact ⟨rfl, rfl⟩
      case round =>
        obtain ⟨rfl, rfl⟩ := hrel
        go_wp2
        go_ret
        exact ⟨rfl, ha1⟩
    · exact weGood_some n d hw bn bd a cap l h16 w hL
  · have e : goodB n d l = false := by simp [goodB, h16]
    rw [e]; clear e
    rw [hw] at HP
    obtain ⟨a0, c0, rfl, hl1, hl2⟩ := row_shape h
    clear h hw
    have h16i : (16 : Int) < (l.length : Int) := by omega
    generalize l.length = m at *
    go_enter Try.func31, Try.ntmps31
    go_wp2_with fail
    refine (HP.out _).mono ?_
    rintro e w1 ⟨rfl, hb1⟩
    have A1 := (RdAt.new w n d (.slice a0 m c0) 34).later hb1
    have ha1 : Below w.heap.size w w1 := by (repeat (first | with_reducible exact Below.refl _ _ | with_reducible assumption | with_reducible refine balloc ?_ _ | with_reducible refine bdrew ?_ | with_reducible refine below_drewN ?_ _ | with_reducible refine bset ?_ ?_ _ | with_reducible exact Nat.le_refl _ | with_reducible refine bsize ?_ | (dsimp only; refine Nat.le_trans ?_ (Nat.le_add_right _ _)) | with_reducible refine Nat.le_trans ?_ (Nat.le_add_right _ _) | (with_reducible refine bstep ?_ (by assumption))))
    obtain ⟨x0, x1, x2, xz⟩ := A1
    go_wp2
    go_ret
    exact ⟨rfl, ha1⟩
end Go.Proofs.Ytngoibohkckgpaa
