/- Caravans that catch up: plain facts, and the model's cvCatch. -/
import Derived.Test.YthfaljninmcopaaCavF
namespace Go.Proofs.Ythfaljninmcopaa
open Go.ChangeShapes Go.WideShapes Go.ChangeAt Go.RowKit Go.Joins
set_option maxRecDepth 100000
set_option linter.unusedVariables false
set_option linter.unusedSimpArgs false

/-- How far the second one is ahead when the later one sets out; the time, over its Den (0: none). -/
def ctL (f s v f' s' v' : Int) : Int := (f' + v' * (max s s' - s')) - (f + v * (max s s' - s))
def ctD (f s v f' s' v' : Int) : Int := if ctL f s v f' s' v' = 0 then 1 else if 0 < ctL f s v f' s' v' then (if 0 < v - v' then v - v' else 0) else (if 0 < v' - v then v' - v else 0)
def ctN (f s v f' s' v' : Int) : Int := if ctL f s v f' s' v' = 0 then max s s' else if 0 < ctL f s v f' s' v' then (if 0 < v - v' then ctL f s v f' s' v' + max s s' * (v - v') else 0) else (if 0 < v' - v then -(ctL f s v f' s' v') + max s s' * (v' - v) else 0)
theorem cp_whole (f s v T : Int) (h : s ≤ T) : cpN f s v T 1 = f + v * (T - s) := by
  unfold cpN
  rw [Int.mul_one, Int.mul_one, show max 0 (T - s) = T - s by omega]
theorem ctL_prog (f s v f' s' v' : Int) : cpN f' s' v' (max s s') 1 - cpN f s v (max s s') 1 = ctL f s v f' s' v' := by
  rw [cp_whole _ _ _ _ (by omega), cp_whole _ _ _ _ (by omega)]
  rfl
theorem ctL_ns {f s v f' s' v' : Int} (h : s ≤ s') : ctL f s v f' s' v' = -(f + v * (s' - s) - f') := by
  unfold ctL
  rw [show max s s' = s' by omega, Int.sub_self, Int.mul_zero]; omega
theorem ctL_sw {f s v f' s' v' : Int} (h : s' < s) : ctL f s v f' s' v' = f' + v' * (s - s') - f := by
  unfold ctL
  rw [show max s s' = s by omega, Int.sub_self, Int.mul_zero]; omega
theorem ct_0 {f s v f' s' v' : Int} (h : ctL f s v f' s' v' = 0) : ctN f s v f' s' v' = max s s' ∧ ctD f s v f' s' v' = 1 := by
  unfold ctN ctD; rw [if_pos h, if_pos h]; exact ⟨rfl, rfl⟩
theorem ct_p {f s v f' s' v' : Int} (h : 0 < ctL f s v f' s' v') (h2 : 0 < v - v') : ctN f s v f' s' v' = ctL f s v f' s' v' + max s s' * (v - v') ∧ ctD f s v f' s' v' = v - v' := by
  have n0 : ¬ ctL f s v f' s' v' = 0 := by omega
  unfold ctN ctD
  refine ⟨?_, ?_⟩ <;> simp only [if_neg n0, if_pos h, if_pos h2]
theorem ct_pn {f s v f' s' v' : Int} (h : 0 < ctL f s v f' s' v') (h2 : ¬ 0 < v - v') : ctN f s v f' s' v' = 0 ∧ ctD f s v f' s' v' = 0 := by
  have n0 : ¬ ctL f s v f' s' v' = 0 := by omega
  unfold ctN ctD
  refine ⟨?_, ?_⟩ <;> simp only [if_neg n0, if_pos h, if_neg h2]
theorem ct_m {f s v f' s' v' : Int} (h : ctL f s v f' s' v' < 0) (h2 : 0 < v' - v) : ctN f s v f' s' v' = -(ctL f s v f' s' v') + max s s' * (v' - v) ∧ ctD f s v f' s' v' = v' - v := by
  have n0 : ¬ ctL f s v f' s' v' = 0 := by omega
  have np : ¬ 0 < ctL f s v f' s' v' := by omega
  unfold ctN ctD
  refine ⟨?_, ?_⟩ <;> simp only [if_neg n0, if_neg np, if_pos h2]
theorem ct_mn {f s v f' s' v' : Int} (h : ctL f s v f' s' v' < 0) (h2 : ¬ 0 < v' - v) : ctN f s v f' s' v' = 0 ∧ ctD f s v f' s' v' = 0 := by
  have n0 : ¬ ctL f s v f' s' v' = 0 := by omega
  have np : ¬ 0 < ctL f s v f' s' v' := by omega
  unfold ctN ctD
  refine ⟨?_, ?_⟩ <;> simp only [if_neg n0, if_neg np, if_neg h2]
/-- Products of a number and one that may be less than 0. -/
theorem pm_bd {a b M N : Int} (ha : 0 ≤ a ∧ a ≤ M) (hb : -N ≤ b ∧ b ≤ N) (hN : 0 ≤ N) : -(M * N) ≤ a * b ∧ a * b ≤ M * N := by
  have h1 : a * b ≤ a * N := Int.mul_le_mul_of_nonneg_left hb.2 ha.1
  have h2 : a * -N ≤ a * b := Int.mul_le_mul_of_nonneg_left hb.1 ha.1
  have h3 : a * N ≤ M * N := Int.mul_le_mul_of_nonneg_right ha.2 hN
  rw [Int.mul_neg] at h2
  omega
structure CtBd (f s v f' s' v' : Int) : Prop where
  L : -1001000 ≤ ctL f s v f' s' v' ∧ ctL f s v f' s' v' ≤ 1001000
  N : 0 ≤ ctN f s v f' s' v' ∧ ctN f s v f' s' v' ≤ 3000000
  D : 0 ≤ ctD f s v f' s' v' ∧ ctD f s v f' s' v' ≤ 1000
theorem ct_bd {f s v f' s' v' : Int} (h1 : crB f s v = true) (h2 : crB f' s' v' = true) : CtBd f s v f' s' v' := by
  obtain ⟨f0, s0, v0⟩ := crB_yes h1
  obtain ⟨f1, s1, v1⟩ := crB_yes h2
  have p1 := pm_bd (a := v) (b := max s s' - s) (M := 1000) (N := 1000) (by omega) (by omega) (by omega)
  have p2 := pm_bd (a := v') (b := max s s' - s') (M := 1000) (N := 1000) (by omega) (by omega) (by omega)
  have q1 : 0 ≤ v * (max s s' - s) := Int.mul_nonneg (by omega) (by omega)
  have q2 : 0 ≤ v' * (max s s' - s') := Int.mul_nonneg (by omega) (by omega)
  have p3 := pm_bd (a := max s s') (b := v - v') (M := 1000) (N := 1000) (by omega) (by omega) (by omega)
  have p4 := pm_bd (a := max s s') (b := v' - v) (M := 1000) (N := 1000) (by omega) (by omega) (by omega)
  have hL : -1001000 ≤ ctL f s v f' s' v' ∧ ctL f s v f' s' v' ≤ 1001000 := by unfold ctL; omega
  refine ⟨hL, ?_, ?_⟩
  · by_cases h0 : ctL f s v f' s' v' = 0
    · rw [(ct_0 h0).1]; omega
    · by_cases hp : 0 < ctL f s v f' s' v'
      · by_cases hv : 0 < v - v'
        · have q3 : 0 ≤ max s s' * (v - v') := Int.mul_nonneg (by omega) (by omega)
          rw [(ct_p hp hv).1]; omega
        · rw [(ct_pn hp hv).1]; omega
      · by_cases hv : 0 < v' - v
        · have q3 : 0 ≤ max s s' * (v' - v) := Int.mul_nonneg (by omega) (by omega)
          rw [(ct_m (by omega) hv).1]; omega
        · rw [(ct_mn (by omega) hv).1]; omega
  · by_cases h0 : ctL f s v f' s' v' = 0
    · rw [(ct_0 h0).2]; omega
    · by_cases hp : 0 < ctL f s v f' s' v'
      · by_cases hv : 0 < v - v'
        · rw [(ct_p hp hv).2]; omega
        · rw [(ct_pn hp hv).2]; omega
      · by_cases hv : 0 < v' - v
        · rw [(ct_m (by omega) hv).2]; omega
        · rw [(ct_mn (by omega) hv).2]; omega
set_option maxHeartbeats 6400000 in
theorem catch_cv (f s v f' s' v' : Int) (h1 : crB f s v = true) (h2 : crB f' s' v' = true) (w : World) :
    Calls Try.prog 54 #[.agg #[.int .i64 f, .int .i64 s, .int .i64 v], .agg #[.int .i64 f', .int .i64 s', .int .i64 v']] w fun e w' => e = .returned (.tuple #[.int .i64 (ctN f s v f' s' v'), .int .i64 (ctD f s v f' s' v')]) ∧ Below w.heap.size w w' := by
  obtain ⟨f0, s0, v0⟩ := crB_yes h1
  obtain ⟨f1, s1, v1⟩ := crB_yes h2
  clear h1 h2
  by_cases hsw : s' < s
  · have pm : 0 ≤ (v' * (s - s')) ∧ (v' * (s - s')) ≤ 1000 * 1000 := ⟨Int.mul_nonneg (by omega) (by omega), Int.mul_le_mul (by omega) (by omega) (by omega) (by omega)⟩
    have hT : max s s' = s := by omega
    have hLe := @ctL_sw f s v f' s' v' hsw
    rcases Int.lt_trichotomy (f' + v' * (s - s') - f) 0 with hA | hA | hA
    · by_cases hv : 0 < (-(v - v'))
      · have pn := pm_bd (a := s) (b := (-(v - v'))) (M := 1000) (N := 1000) (by omega) (by omega) (by omega)
        have e := @ct_m f s v f' s' v' (by omega) (by omega)
        have eo : (v' - v) = (-(v - v')) := by first | rfl | omega
        have e1 : ctN f s v f' s' v' = s * (-(v - v')) + (-(f' + v' * (s - s') - f)) := by rw [e.1, hT, eo] <;> omega
        have e2 : ctD f s v f' s' v' = (-(v - v')) := e.2.trans eo
        rw [e1, e2]
        clear e e1 e2 hLe eo hT
        go_enter Try.func54, Try.ntmps54
        go_wp2
        refine bodyPost_ret (v := .tuple #[.int .i64 (s * (-(v - v')) + (-(f' + v' * (s - s') - f))), .int .i64 (-(v - v'))]) (by simp only [results, Try.results54]; go_simp) rfl ⟨rfl, ?_⟩
        (repeat (first | with_reducible exact Below.refl _ _ | with_reducible assumption | with_reducible refine balloc ?_ _ | with_reducible refine bdrew ?_ | with_reducible refine below_drewN ?_ _ | with_reducible refine bset ?_ ?_ _ | with_reducible exact Nat.le_refl _ | with_reducible refine bsize ?_ | (dsimp only; refine Nat.le_trans ?_ (Nat.le_add_right _ _)) | with_reducible refine Nat.le_trans ?_ (Nat.le_add_right _ _) | (with_reducible refine bstep ?_ (by assumption))))
      · have e := @ct_mn f s v f' s' v' (by omega) (by omega)
        rw [e.1, e.2]
        clear e hLe hT
        go_enter Try.func54, Try.ntmps54
        go_wp2
        refine bodyPost_ret (v := .tuple #[.int .i64 0, .int .i64 0]) (by simp only [results, Try.results54]; go_simp) rfl ⟨rfl, ?_⟩
        (repeat (first | with_reducible exact Below.refl _ _ | with_reducible assumption | with_reducible refine balloc ?_ _ | with_reducible refine bdrew ?_ | with_reducible refine below_drewN ?_ _ | with_reducible refine bset ?_ ?_ _ | with_reducible exact Nat.le_refl _ | with_reducible refine bsize ?_ | (dsimp only; refine Nat.le_trans ?_ (Nat.le_add_right _ _)) | with_reducible refine Nat.le_trans ?_ (Nat.le_add_right _ _) | (with_reducible refine bstep ?_ (by assumption))))
    · have e := @ct_0 f s v f' s' v' (by omega)
      rw [e.1, e.2, hT]
      clear e hLe hT
      go_enter Try.func54, Try.ntmps54
      go_wp2
      refine bodyPost_ret (v := .tuple #[.int .i64 s, .int .i64 1]) (by simp only [results, Try.results54]; go_simp) rfl ⟨rfl, ?_⟩
      (repeat (first | with_reducible exact Below.refl _ _ | with_reducible assumption | with_reducible refine balloc ?_ _ | with_reducible refine bdrew ?_ | with_reducible refine below_drewN ?_ _ | with_reducible refine bset ?_ ?_ _ | with_reducible exact Nat.le_refl _ | with_reducible refine bsize ?_ | (dsimp only; refine Nat.le_trans ?_ (Nat.le_add_right _ _)) | with_reducible refine Nat.le_trans ?_ (Nat.le_add_right _ _) | (with_reducible refine bstep ?_ (by assumption))))
    · by_cases hv : 0 < (v - v')
      · have pn := pm_bd (a := s) (b := (v - v')) (M := 1000) (N := 1000) (by omega) (by omega) (by omega)
        have e := @ct_p f s v f' s' v' (by omega) (by omega)
        have eo : (v - v') = (v - v') := by first | rfl | omega
        have e1 : ctN f s v f' s' v' = s * (v - v') + (f' + v' * (s - s') - f) := by rw [e.1, hT, eo] <;> omega
        have e2 : ctD f s v f' s' v' = (v - v') := e.2.trans eo
        rw [e1, e2]
        clear e e1 e2 hLe eo hT
        go_enter Try.func54, Try.ntmps54
        go_wp2
        refine bodyPost_ret (v := .tuple #[.int .i64 (s * (v - v') + (f' + v' * (s - s') - f)), .int .i64 (v - v')]) (by simp only [results, Try.results54]; go_simp) rfl ⟨rfl, ?_⟩
        (repeat (first | with_reducible exact Below.refl _ _ | with_reducible assumption | with_reducible refine balloc ?_ _ | with_reducible refine bdrew ?_ | with_reducible refine below_drewN ?_ _ | with_reducible refine bset ?_ ?_ _ | with_reducible exact Nat.le_refl _ | with_reducible refine bsize ?_ | (dsimp only; refine Nat.le_trans ?_ (Nat.le_add_right _ _)) | with_reducible refine Nat.le_trans ?_ (Nat.le_add_right _ _) | (with_reducible refine bstep ?_ (by assumption))))
      · have e := @ct_pn f s v f' s' v' (by omega) (by omega)
        rw [e.1, e.2]
        clear e hLe hT
        go_enter Try.func54, Try.ntmps54
        go_wp2
        refine bodyPost_ret (v := .tuple #[.int .i64 0, .int .i64 0]) (by simp only [results, Try.results54]; go_simp) rfl ⟨rfl, ?_⟩
        (repeat (first | with_reducible exact Below.refl _ _ | with_reducible assumption | with_reducible refine balloc ?_ _ | with_reducible refine bdrew ?_ | with_reducible refine below_drewN ?_ _ | with_reducible refine bset ?_ ?_ _ | with_reducible exact Nat.le_refl _ | with_reducible refine bsize ?_ | (dsimp only; refine Nat.le_trans ?_ (Nat.le_add_right _ _)) | with_reducible refine Nat.le_trans ?_ (Nat.le_add_right _ _) | (with_reducible refine bstep ?_ (by assumption))))
  · have pm : 0 ≤ (v * (s' - s)) ∧ (v * (s' - s)) ≤ 1000 * 1000 := ⟨Int.mul_nonneg (by omega) (by omega), Int.mul_le_mul (by omega) (by omega) (by omega) (by omega)⟩
    have hT : max s s' = s' := by omega
    have hLe := @ctL_ns f s v f' s' v' (Int.not_lt.1 hsw)
    rcases Int.lt_trichotomy (f + v * (s' - s) - f') 0 with hA | hA | hA
    · by_cases hv : 0 < (-(v' - v))
      · have pn := pm_bd (a := s') (b := (-(v' - v))) (M := 1000) (N := 1000) (by omega) (by omega) (by omega)
        have e := @ct_p f s v f' s' v' (by omega) (by omega)
        have eo : (v - v') = (-(v' - v)) := by first | rfl | omega
        have e1 : ctN f s v f' s' v' = s' * (-(v' - v)) + (-(f + v * (s' - s) - f')) := by rw [e.1, hT, eo] <;> omega
        have e2 : ctD f s v f' s' v' = (-(v' - v)) := e.2.trans eo
        rw [e1, e2]
        clear e e1 e2 hLe eo hT
        go_enter Try.func54, Try.ntmps54
        go_wp2
        refine bodyPost_ret (v := .tuple #[.int .i64 (s' * (-(v' - v)) + (-(f + v * (s' - s) - f'))), .int .i64 (-(v' - v))]) (by simp only [results, Try.results54]; go_simp) rfl ⟨rfl, ?_⟩
        (repeat (first | with_reducible exact Below.refl _ _ | with_reducible assumption | with_reducible refine balloc ?_ _ | with_reducible refine bdrew ?_ | with_reducible refine below_drewN ?_ _ | with_reducible refine bset ?_ ?_ _ | with_reducible exact Nat.le_refl _ | with_reducible refine bsize ?_ | (dsimp only; refine Nat.le_trans ?_ (Nat.le_add_right _ _)) | with_reducible refine Nat.le_trans ?_ (Nat.le_add_right _ _) | (with_reducible refine bstep ?_ (by assumption))))
      · have e := @ct_pn f s v f' s' v' (by omega) (by omega)
        rw [e.1, e.2]
        clear e hLe hT
        go_enter Try.func54, Try.ntmps54
        go_wp2
        refine bodyPost_ret (v := .tuple #[.int .i64 0, .int .i64 0]) (by simp only [results, Try.results54]; go_simp) rfl ⟨rfl, ?_⟩
        (repeat (first | with_reducible exact Below.refl _ _ | with_reducible assumption | with_reducible refine balloc ?_ _ | with_reducible refine bdrew ?_ | with_reducible refine below_drewN ?_ _ | with_reducible refine bset ?_ ?_ _ | with_reducible exact Nat.le_refl _ | with_reducible refine bsize ?_ | (dsimp only; refine Nat.le_trans ?_ (Nat.le_add_right _ _)) | with_reducible refine Nat.le_trans ?_ (Nat.le_add_right _ _) | (with_reducible refine bstep ?_ (by assumption))))
    · have e := @ct_0 f s v f' s' v' (by omega)
      rw [e.1, e.2, hT]
      clear e hLe hT
      go_enter Try.func54, Try.ntmps54
      go_wp2
      refine bodyPost_ret (v := .tuple #[.int .i64 s', .int .i64 1]) (by simp only [results, Try.results54]; go_simp) rfl ⟨rfl, ?_⟩
      (repeat (first | with_reducible exact Below.refl _ _ | with_reducible assumption | with_reducible refine balloc ?_ _ | with_reducible refine bdrew ?_ | with_reducible refine below_drewN ?_ _ | with_reducible refine bset ?_ ?_ _ | with_reducible exact Nat.le_refl _ | with_reducible refine bsize ?_ | (dsimp only; refine Nat.le_trans ?_ (Nat.le_add_right _ _)) | with_reducible refine Nat.le_trans ?_ (Nat.le_add_right _ _) | (with_reducible refine bstep ?_ (by assumption))))
    · by_cases hv : 0 < (v' - v)
      · have pn := pm_bd (a := s') (b := (v' - v)) (M := 1000) (N := 1000) (by omega) (by omega) (by omega)
        have e := @ct_m f s v f' s' v' (by omega) (by omega)
        have eo : (v' - v) = (v' - v) := by first | rfl | omega
        have e1 : ctN f s v f' s' v' = s' * (v' - v) + (f + v * (s' - s) - f') := by rw [e.1, hT, eo] <;> omega
        have e2 : ctD f s v f' s' v' = (v' - v) := e.2.trans eo
        rw [e1, e2]
        clear e e1 e2 hLe eo hT
        go_enter Try.func54, Try.ntmps54
        go_wp2
        refine bodyPost_ret (v := .tuple #[.int .i64 (s' * (v' - v) + (f + v * (s' - s) - f')), .int .i64 (v' - v)]) (by simp only [results, Try.results54]; go_simp) rfl ⟨rfl, ?_⟩
        (repeat (first | with_reducible exact Below.refl _ _ | with_reducible assumption | with_reducible refine balloc ?_ _ | with_reducible refine bdrew ?_ | with_reducible refine below_drewN ?_ _ | with_reducible refine bset ?_ ?_ _ | with_reducible exact Nat.le_refl _ | with_reducible refine bsize ?_ | (dsimp only; refine Nat.le_trans ?_ (Nat.le_add_right _ _)) | with_reducible refine Nat.le_trans ?_ (Nat.le_add_right _ _) | (with_reducible refine bstep ?_ (by assumption))))
      · have e := @ct_mn f s v f' s' v' (by omega) (by omega)
        rw [e.1, e.2]
        clear e hLe hT
        go_enter Try.func54, Try.ntmps54
        go_wp2
        refine bodyPost_ret (v := .tuple #[.int .i64 0, .int .i64 0]) (by simp only [results, Try.results54]; go_simp) rfl ⟨rfl, ?_⟩
        (repeat (first | with_reducible exact Below.refl _ _ | with_reducible assumption | with_reducible refine balloc ?_ _ | with_reducible refine bdrew ?_ | with_reducible refine below_drewN ?_ _ | with_reducible refine bset ?_ ?_ _ | with_reducible exact Nat.le_refl _ | with_reducible refine bsize ?_ | (dsimp only; refine Nat.le_trans ?_ (Nat.le_add_right _ _)) | with_reducible refine Nat.le_trans ?_ (Nat.le_add_right _ _) | (with_reducible refine bstep ?_ (by assumption))))
end Go.Proofs.Ythfaljninmcopaa
