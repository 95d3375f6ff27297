/- IsPuzzle and IsClue, of the program and of the model. -/
import Derived.Test.YthhmmdapoaeeiaaPzU
import Derived.Deep.RegionHeld3
import Derived.Deep.DeepCutAuto
namespace Go.Proofs.Ythhmmdapoaeeiaa
open Go.ChangeShapes Go.WideShapes Go.ChangeAt Go.RowKit Go.Joins
set_option maxRecDepth 100000
set_option linter.unusedVariables false
set_option linter.unusedSimpArgs false


set_option maxHeartbeats 1600000 in
theorem isPz_impl (m : Int) (bm : (-9223372036854775808 ≤ m ∧ m ≤ 9223372036854775807)) (v : Value) (l : List ClueV) (w : World) (h : RowG 3 fClue w v l) :
    Calls Try.prog 13 #[.agg #[.int .i64 m, v]] w fun e w' => e = .returned (.bool (pzB m l)) ∧ Below w.heap.size w w' := by
  have HT := Lib.hid (fun W (hB : Below w.heap.size w W) => trials_impl m bm v l W (rowG_below h hB))
  obtain ⟨a0, c0, rfl, hl1, hl2⟩ := row_shape h
  clear h
  obtain ⟨R, hR⟩ : ∃ R, pzB m l = R := ⟨_, rfl⟩
  rw [hR]
  go_enter Try.func13, Try.ntmps13
  go_wp2_with fail
  refine (HT.out _ (by (repeat (first | with_reducible exact Below.refl _ _ | with_reducible assumption | with_reducible refine balloc ?_ _ | with_reducible refine bdrew ?_ | with_reducible refine below_drewN ?_ _ | with_reducible refine bset ?_ ?_ _ | with_reducible exact Nat.le_refl _ | with_reducible refine bsize ?_ | (dsimp only; refine Nat.le_trans ?_ (Nat.le_add_right _ _)) | with_reducible refine Nat.le_trans ?_ (Nat.le_add_right _ _) | (with_reducible refine bstep ?_ (by assumption)))))).mono ?_
  rintro e w1 ⟨v1, rfl, hb1, _, _⟩
  rw [hR]
  clear hR
  go_wp2
  go_ret
  refine ⟨rfl, ?_⟩
  (repeat (first | with_reducible exact Below.refl _ _ | with_reducible assumption | with_reducible refine balloc ?_ _ | with_reducible refine bdrew ?_ | with_reducible refine below_drewN ?_ _ | with_reducible refine bset ?_ ?_ _ | with_reducible exact Nat.le_refl _ | with_reducible refine bsize ?_ | (dsimp only; refine Nat.le_trans ?_ (Nat.le_add_right _ _)) | with_reducible refine Nat.le_trans ?_ (Nat.le_add_right _ _) | (with_reducible refine bstep ?_ (by assumption))))
set_option maxHeartbeats 1600000 in
theorem isPz_spec (m : Int) (bm : (-9223372036854775808 ≤ m ∧ m ≤ 9223372036854775807)) (v : Value) (l : List ClueV) (w : World) (h : RowG 3 fClue w v l) :
    Calls Try.prog 11 #[.agg #[.int .i64 m, v]] w fun e w' => e = .returned (.bool (pzB m l)) ∧ Below w.heap.size w w' := by
  have HT := Lib.hid (fun W (hB : Below w.heap.size w W) => good9_spec m bm v l W (rowG_below h hB))
  obtain ⟨a0, c0, rfl, hl1, hl2⟩ := row_shape h
  clear h
  generalize pzB m l = R at *
  go_enter Try.func11, Try.ntmps11
  go_wp2_with fail
  refine (HT.out _ (by (repeat (first | with_reducible exact Below.refl _ _ | with_reducible assumption | with_reducible refine balloc ?_ _ | with_reducible refine bdrew ?_ | with_reducible refine below_drewN ?_ _ | with_reducible refine bset ?_ ?_ _ | with_reducible exact Nat.le_refl _ | with_reducible refine bsize ?_ | (dsimp only; refine Nat.le_trans ?_ (Nat.le_add_right _ _)) | with_reducible refine Nat.le_trans ?_ (Nat.le_add_right _ _) | (with_reducible refine bstep ?_ (by assumption)))))).mono ?_
  rintro e w1 ⟨rfl, hb1⟩
  go_wp2
  go_ret
  refine ⟨rfl, ?_⟩
  (repeat (first | with_reducible exact Below.refl _ _ | with_reducible assumption | with_reducible refine balloc ?_ _ | with_reducible refine bdrew ?_ | with_reducible refine below_drewN ?_ _ | with_reducible refine bset ?_ ?_ _ | with_reducible exact Nat.le_refl _ | with_reducible refine bsize ?_ | (dsimp only; refine Nat.le_trans ?_ (Nat.le_add_right _ _)) | with_reducible refine Nat.le_trans ?_ (Nat.le_add_right _ _) | (with_reducible refine bstep ?_ (by assumption))))
/-- Is it a clue? -/
def clueB (m k a b : Int) : Bool := miB m && clB m k a b
theorem pzB_one (m k a b : Int) : pzB m [⟨k, a, b⟩] = clueB m k a b := by
  simp [pzB, clueB, clP]
set_option maxHeartbeats 1600000 in
theorem isCl_impl (m k a b : Int) (bm : (-9223372036854775808 ≤ m ∧ m ≤ 9223372036854775807)) (bk : (-9223372036854775808 ≤ k ∧ k ≤ 9223372036854775807)) (ba : (-9223372036854775808 ≤ a ∧ a ≤ 9223372036854775807)) (bb : (-9223372036854775808 ≤ b ∧ b ≤ 9223372036854775807)) (w : World) :
    Calls Try.prog 9 #[.int .i64 m, .agg #[.int .i64 k, .int .i64 a, .int .i64 b]] w fun e w' => e = .returned (.bool (clueB m k a b)) ∧ Below w.heap.size w w' := by
  have HP := Lib.hid (fun W g (h0 : W.cell? ⟨g, 0, none⟩ = some (.int .i64 k)) (h1 : W.cell? ⟨g, 1, none⟩ = some (.int .i64 a)) (h2 : W.cell? ⟨g, 2, none⟩ = some (.int .i64 b)) =>
    isPz_impl m bm (.slice (some ⟨g, 0, none⟩) 1 1) [⟨k, a, b⟩] W (Or.inr ⟨_, _, rfl, by
      refine ⟨by simp, by simp, fun i p hp j z hz => ?_, fun p hp z hz => ?_⟩
      · have hi : i = 0 := by
          rcases i with _ | i
          · rfl
          · simp at hp
        subst hi
        simp at hp
        subst hp
        rcases j with _ | _ | _ | j
        · simp [fClue] at hz; subst hz; simpa [Addr.add] using h0
        · simp [fClue] at hz; subst hz; simpa [Addr.add] using h1
        · simp [fClue] at hz; subst hz; simpa [Addr.add] using h2
        · simp [fClue] at hz
      · simp at hp
        subst hp
        simp [fClue] at hz
        rcases hz with rfl | rfl | rfl
        · exact bk
        · exact ba
        · exact bb⟩))
  rw [← pzB_one]
  generalize pzB m [⟨k, a, b⟩] = R at *
  go_enter Try.func9, Try.ntmps9
  go_wp2_with fail
  refine (HP.out _ (w.heap.size + 1) (by simp [go_sem]) (by simp [go_sem]) (by simp [go_sem])).mono ?_
  rintro e w1 ⟨rfl, hb1⟩
  go_wp2
  go_ret
  refine ⟨rfl, ?_⟩
  (repeat (first | with_reducible exact Below.refl _ _ | with_reducible assumption | with_reducible refine balloc ?_ _ | with_reducible refine bdrew ?_ | with_reducible refine below_drewN ?_ _ | with_reducible refine bset ?_ ?_ _ | with_reducible exact Nat.le_refl _ | with_reducible refine bsize ?_ | (dsimp only; refine Nat.le_trans ?_ (Nat.le_add_right _ _)) | with_reducible refine Nat.le_trans ?_ (Nat.le_add_right _ _) | (with_reducible refine bstep ?_ (by assumption))))
set_option maxHeartbeats 1600000 in
theorem isCl_spec (m k a b : Int) (w : World) :
    Calls Try.prog 7 #[.int .i64 m, .agg #[.int .i64 k, .int .i64 a, .int .i64 b]] w fun e w' => e = .returned (.bool (clueB m k a b)) ∧ Below w.heap.size w w' := by
  cases h : miB m
  · rw [show clueB m k a b = false by simp [clueB, h]]
    go_enter Try.func7, Try.ntmps7
    go_wp2_with (go_at_call 21; refine (mi_spec _ _).mono ?_; rintro e w1 ⟨rfl, rfl⟩; rw [h])
    go_ret
    refine ⟨rfl, ?_⟩
    (repeat (first | with_reducible exact Below.refl _ _ | with_reducible assumption | with_reducible refine balloc ?_ _ | with_reducible refine bdrew ?_ | with_reducible refine below_drewN ?_ _ | with_reducible refine bset ?_ ?_ _ | with_reducible exact Nat.le_refl _ | with_reducible refine bsize ?_ | (dsimp only; refine Nat.le_trans ?_ (Nat.le_add_right _ _)) | with_reducible refine Nat.le_trans ?_ (Nat.le_add_right _ _) | (with_reducible refine bstep ?_ (by assumption))))
  · rw [show clueB m k a b = clB m k a b by simp [clueB, h]]
    have HC := Lib.hid (fun W => cl_spec m k a b (miB_yes h) W)
    generalize clB m k a b = R at *
    go_enter Try.func7, Try.ntmps7
    go_wp2_with (go_at_call 21; refine (mi_spec _ _).mono ?_; rintro e w1 ⟨rfl, rfl⟩; rw [h])
    refine (HC.out _).mono ?_
    rintro e w1 ⟨rfl, hb1⟩
    go_wp2
    go_ret
    refine ⟨rfl, ?_⟩
    (repeat (first | with_reducible exact Below.refl _ _ | with_reducible assumption | with_reducible refine balloc ?_ _ | with_reducible refine bdrew ?_ | with_reducible refine below_drewN ?_ _ | with_reducible refine bset ?_ ?_ _ | with_reducible exact Nat.le_refl _ | with_reducible refine bsize ?_ | (dsimp only; refine Nat.le_trans ?_ (Nat.le_add_right _ _)) | with_reducible refine Nat.le_trans ?_ (Nat.le_add_right _ _) | (with_reducible refine bstep ?_ (by assumption))))
end Go.Proofs.Ythhmmdapoaeeiaa
