/- Plans: PlanOut of the model, whole. -/
import Derived.Test.YtjmmlknbdmngeaaPlanF
import Derived.Test.YtjmmlknbdmngeaaAns
namespace Go.Proofs.Ytjmmlknbdmngeaa
open Go.ChangeShapes Go.WideShapes Go.ChangeAt Go.RowKit Go.Joins
set_option maxRecDepth 100000
set_option linter.unusedVariables false
set_option linter.unusedSimpArgs false


set_option maxHeartbeats 3200000 in
theorem planOut_spec (t : Int) (bt : -9223372036854775808 ≤ t ∧ t ≤ 9223372036854775807) (w : World) :
    Calls Try.prog 47 #[.int .i64 t] w (AnsG 49 3 fStep (poL t) (inB t 1 4) w) := by
  cases hk : inB t 1 4
  · rw [poL_no t hk]
    go_enter Try.func47, Try.ntmps47
    go_wp2_with (go_at_call 52; refine (in_spec _ _ _ _).mono ?_; rintro e w1 ⟨rfl, rfl⟩; rw [hk])
    go_ret2
    refine ⟨_, rfl, ⟨rfl, Or.inl ⟨rfl, rfl⟩⟩, ?_⟩
    (repeat (first | with_reducible exact Below.refl _ _ | with_reducible assumption | with_reducible refine balloc ?_ _ | with_reducible refine bdrew ?_ | with_reducible refine below_drewN ?_ _ | with_reducible refine bset ?_ ?_ _ | with_reducible exact Nat.le_refl _ | with_reducible refine bsize ?_ | (dsimp only; refine Nat.le_trans ?_ (Nat.le_add_right _ _)) | with_reducible refine Nat.le_trans ?_ (Nat.le_add_right _ _) | (with_reducible refine bstep ?_ (by assumption))))
  · have hb : 1 ≤ t ∧ t ≤ 4 := by simpa [inB] using hk
    obtain ⟨n, rfl⟩ := Int.eq_ofNat_of_zero_le (show 0 ≤ t by omega)
    have hn1 : 1 ≤ n := by omega
    have hn2 : n ≤ 4 := by omega
    rw [poL_yes n hk]
    obtain ⟨hbr, hfl, hls⟩ := po_parts n (by omega) hn1
    clear hbr
    have hP0 : PlanAt (w.heap.size + 1) ((w.alloc (.cells #[.int .i64 0, .int .i64 1] 23)).alloc (.cells #[.slice none 0 0, .int .i64 0, .int .i64 1] 104)) (poS n 0) :=
      ⟨.slice none 0 0, by simp [go_sem], by simp [go_sem, poS], by simp [go_sem, poS], by simp [go_sem], by simp [go_sem], by simp [go_sem], ⟨rfl, Or.inl ⟨rfl, rfl⟩⟩, by simp⟩
    have hL := legs_spec (w.heap.size + 1) n hn1 hn2 ((w.alloc (.cells #[.int .i64 0, .int .i64 1] 23)).alloc (.cells #[.slice none 0 0, .int .i64 0, .int .i64 1] 104)) (by simp) hP0
    have HL := Lib.hid hL
    clear hL
    go_enter Try.func47, Try.ntmps47
    go_wp2_with (first | (go_at_call 52; refine (in_spec _ _ _ _).mono ?_; rintro e w1 ⟨rfl, rfl⟩; rw [hk]) | (go_at_call 80; refine (whole_is_spec _ _).mono ?_; rintro e w3 ⟨rfl, rfl⟩))
    refine HL.out.mono ?_
    rintro e w5 ⟨⟨vw, rfl⟩, hP5, hk5⟩
    have bel5 : Below w.heap.size w w5 := hk5.bel _ _ (by omega) (by (repeat (first | with_reducible exact Below.refl _ _ | with_reducible assumption | with_reducible refine balloc ?_ _ | with_reducible refine bdrew ?_ | with_reducible refine below_drewN ?_ _ | with_reducible refine bset ?_ ?_ _ | with_reducible exact Nat.le_refl _ | with_reducible refine bsize ?_ | (dsimp only; refine Nat.le_trans ?_ (Nat.le_add_right _ _)) | with_reducible refine Nat.le_trans ?_ (Nat.le_add_right _ _) | (with_reducible refine bstep ?_ (by assumption)))))
    clear hP0 HL hk5
    go_wp2_with (go_at_call 80; refine (whole_is_spec _ _).mono ?_; rintro e w6 ⟨rfl, rfl⟩)
    have hP6 := hP5.later (show Below w5.heap.size w5 (w5.alloc (.cells #[.int .i64 1, .int .i64 1] 23)) by (repeat (first | with_reducible exact Below.refl _ _ | with_reducible assumption | with_reducible refine balloc ?_ _ | with_reducible refine bdrew ?_ | with_reducible refine below_drewN ?_ _ | with_reducible refine bset ?_ ?_ _ | with_reducible exact Nat.le_refl _ | with_reducible refine bsize ?_ | (dsimp only; refine Nat.le_trans ?_ (Nat.le_add_right _ _)) | with_reducible refine Nat.le_trans ?_ (Nat.le_add_right _ _) | (with_reducible refine bstep ?_ (by assumption)))))
    refine (addAt_spec (w.heap.size + 1) _ 0 1 1 hls (am_whole 1 (by omega) (by omega)) (by omega) _ hP6).mono ?_
    rintro e w7 ⟨rfl, hP7, hk7⟩
    have bel7 := hk7.bel _ _ (show w.heap.size ≤ w.heap.size + 1 by omega) (show Below w.heap.size w _ by (repeat (first | with_reducible exact Below.refl _ _ | with_reducible assumption | with_reducible refine balloc ?_ _ | with_reducible refine bdrew ?_ | with_reducible refine below_drewN ?_ _ | with_reducible refine bset ?_ ?_ _ | with_reducible exact Nat.le_refl _ | with_reducible refine bsize ?_ | (dsimp only; refine Nat.le_trans ?_ (Nat.le_add_right _ _)) | with_reducible refine Nat.le_trans ?_ (Nat.le_add_right _ _) | (with_reducible refine bstep ?_ (by assumption)))))
    obtain ⟨v, hv⟩ := hP7
    have h0 := hv.c0
    have hown := hv.own
    clear hP5 hP6 hv hk7 bel5
    obtain ⟨av, cv, rfl⟩ := owns_shape hown
    go_wp2
    go_ret2
    exact ⟨_, rfl, own_mono hown (by omega), bel7⟩

end Go.Proofs.Ytjmmlknbdmngeaa
