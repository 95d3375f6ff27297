/- The falcon's way of the model; a column's rider: of the program and of the model. -/
import Derived.Test.YthfaljninmcopaaCavL
namespace Go.Proofs.Ythfaljninmcopaa
open Go.ChangeShapes Go.WideShapes Go.ChangeAt Go.RowKit Go.Joins
set_option maxRecDepth 100000
set_option linter.unusedVariables false
set_option linter.unusedSimpArgs false

set_option maxHeartbeats 6400000 in
theorem falcon_spec (l a b f : Int) (w : World) :
    Calls Try.prog 32 #[.int .i64 l, .int .i64 a, .int .i64 b, .int .i64 f] w fun e w' => e = .returned (.tuple #[.agg #[.int .i64 (twoN (fwK l a b f) (f * l) (a + b)), .int .i64 (twoD (fwK l a b f) (f * l) (a + b))], .bool (twoB (fwK l a b f) (f * l) (a + b))]) ∧ Below w.heap.size w w' := by
  cases h1 : trP l
  · rw [(nolow8 (fwK l a b f) (f * l) (a + b) (by simp [fwK, h1])).1, (nolow8 (fwK l a b f) (f * l) (a + b) (by simp [fwK, h1])).2.1, (nolow8 (fwK l a b f) (f * l) (a + b) (by simp [fwK, h1])).2.2]
    go_enter Try.func32, Try.ntmps32
    go_wp2_with (go_at_call 60; refine (one_spec _ _).mono ?_; rintro e w2 ⟨rfl, rfl⟩; first | rw [h1])
    refine bodyPost_ret (v := .tuple #[.agg #[.int .i64 0, .int .i64 0], .bool false]) (by simp only [results, Try.results32]; go_simp) rfl ⟨rfl, ?_⟩
    (repeat (first | with_reducible exact Below.refl _ _ | with_reducible assumption | with_reducible refine balloc ?_ _ | with_reducible refine bdrew ?_ | with_reducible refine below_drewN ?_ _ | with_reducible refine bset ?_ ?_ _ | with_reducible exact Nat.le_refl _ | with_reducible refine bsize ?_ | (dsimp only; refine Nat.le_trans ?_ (Nat.le_add_right _ _)) | with_reducible refine Nat.le_trans ?_ (Nat.le_add_right _ _) | (with_reducible refine bstep ?_ (by assumption))))
  · skip
    cases h2 : trP a
    · rw [(nolow8 (fwK l a b f) (f * l) (a + b) (by simp [fwK, h2])).1, (nolow8 (fwK l a b f) (f * l) (a + b) (by simp [fwK, h2])).2.1, (nolow8 (fwK l a b f) (f * l) (a + b) (by simp [fwK, h2])).2.2]
      go_enter Try.func32, Try.ntmps32
      go_wp2_with (go_at_call 60; refine (one_spec _ _).mono ?_; rintro e w2 ⟨rfl, rfl⟩; first | rw [h1] | rw [h2])
      refine bodyPost_ret (v := .tuple #[.agg #[.int .i64 0, .int .i64 0], .bool false]) (by simp only [results, Try.results32]; go_simp) rfl ⟨rfl, ?_⟩
      (repeat (first | with_reducible exact Below.refl _ _ | with_reducible assumption | with_reducible refine balloc ?_ _ | with_reducible refine bdrew ?_ | with_reducible refine below_drewN ?_ _ | with_reducible refine bset ?_ ?_ _ | with_reducible exact Nat.le_refl _ | with_reducible refine bsize ?_ | (dsimp only; refine Nat.le_trans ?_ (Nat.le_add_right _ _)) | with_reducible refine Nat.le_trans ?_ (Nat.le_add_right _ _) | (with_reducible refine bstep ?_ (by assumption))))
    · skip
      cases h3 : trP b
      · rw [(nolow8 (fwK l a b f) (f * l) (a + b) (by simp [fwK, h3])).1, (nolow8 (fwK l a b f) (f * l) (a + b) (by simp [fwK, h3])).2.1, (nolow8 (fwK l a b f) (f * l) (a + b) (by simp [fwK, h3])).2.2]
        go_enter Try.func32, Try.ntmps32
        go_wp2_with (go_at_call 60; refine (one_spec _ _).mono ?_; rintro e w2 ⟨rfl, rfl⟩; first | rw [h1] | rw [h2] | rw [h3])
        refine bodyPost_ret (v := .tuple #[.agg #[.int .i64 0, .int .i64 0], .bool false]) (by simp only [results, Try.results32]; go_simp) rfl ⟨rfl, ?_⟩
        (repeat (first | with_reducible exact Below.refl _ _ | with_reducible assumption | with_reducible refine balloc ?_ _ | with_reducible refine bdrew ?_ | with_reducible refine below_drewN ?_ _ | with_reducible refine bset ?_ ?_ _ | with_reducible exact Nat.le_refl _ | with_reducible refine bsize ?_ | (dsimp only; refine Nat.le_trans ?_ (Nat.le_add_right _ _)) | with_reducible refine Nat.le_trans ?_ (Nat.le_add_right _ _) | (with_reducible refine bstep ?_ (by assumption))))
      · skip
        cases h4 : trP f
        · rw [(nolow8 (fwK l a b f) (f * l) (a + b) (by simp [fwK, h4])).1, (nolow8 (fwK l a b f) (f * l) (a + b) (by simp [fwK, h4])).2.1, (nolow8 (fwK l a b f) (f * l) (a + b) (by simp [fwK, h4])).2.2]
          go_enter Try.func32, Try.ntmps32
          go_wp2_with (go_at_call 60; refine (one_spec _ _).mono ?_; rintro e w2 ⟨rfl, rfl⟩; first | rw [h1] | rw [h2] | rw [h3] | rw [h4])
          refine bodyPost_ret (v := .tuple #[.agg #[.int .i64 0, .int .i64 0], .bool false]) (by simp only [results, Try.results32]; go_simp) rfl ⟨rfl, ?_⟩
          (repeat (first | with_reducible exact Below.refl _ _ | with_reducible assumption | with_reducible refine balloc ?_ _ | with_reducible refine bdrew ?_ | with_reducible refine below_drewN ?_ _ | with_reducible refine bset ?_ ?_ _ | with_reducible exact Nat.le_refl _ | with_reducible refine bsize ?_ | (dsimp only; refine Nat.le_trans ?_ (Nat.le_add_right _ _)) | with_reducible refine Nat.le_trans ?_ (Nat.le_add_right _ _) | (with_reducible refine bstep ?_ (by assumption))))
        · skip
          have j1 := trP_yes h1
          have j2 := trP_yes h2
          have j3 := trP_yes h3
          have j4 := trP_yes h4
          by_cases ha : f < a
          · rw [(nolow8 (fwK l a b f) (f * l) (a + b) (by simp [fwK]; omega)).1, (nolow8 (fwK l a b f) (f * l) (a + b) (by simp [fwK]; omega)).2.1, (nolow8 (fwK l a b f) (f * l) (a + b) (by simp [fwK]; omega)).2.2]
            go_enter Try.func32, Try.ntmps32
            go_wp2_with (go_at_call 60; refine (one_spec _ _).mono ?_; rintro e w2 ⟨rfl, rfl⟩; first | rw [h1] | rw [h2] | rw [h3] | rw [h4])
            refine bodyPost_ret (v := .tuple #[.agg #[.int .i64 0, .int .i64 0], .bool false]) (by simp only [results, Try.results32]; go_simp) rfl ⟨rfl, ?_⟩
            (repeat (first | with_reducible exact Below.refl _ _ | with_reducible assumption | with_reducible refine balloc ?_ _ | with_reducible refine bdrew ?_ | with_reducible refine below_drewN ?_ _ | with_reducible refine bset ?_ ?_ _ | with_reducible exact Nat.le_refl _ | with_reducible refine bsize ?_ | (dsimp only; refine Nat.le_trans ?_ (Nat.le_add_right _ _)) | with_reducible refine Nat.le_trans ?_ (Nat.le_add_right _ _) | (with_reducible refine bstep ?_ (by assumption))))
          · by_cases hb : f < b
            · rw [(nolow8 (fwK l a b f) (f * l) (a + b) (by simp [fwK]; omega)).1, (nolow8 (fwK l a b f) (f * l) (a + b) (by simp [fwK]; omega)).2.1, (nolow8 (fwK l a b f) (f * l) (a + b) (by simp [fwK]; omega)).2.2]
              go_enter Try.func32, Try.ntmps32
              go_wp2_with (go_at_call 60; refine (one_spec _ _).mono ?_; rintro e w2 ⟨rfl, rfl⟩; first | rw [h1] | rw [h2] | rw [h3] | rw [h4])
              refine bodyPost_ret (v := .tuple #[.agg #[.int .i64 0, .int .i64 0], .bool false]) (by simp only [results, Try.results32]; go_simp) rfl ⟨rfl, ?_⟩
              (repeat (first | with_reducible exact Below.refl _ _ | with_reducible assumption | with_reducible refine balloc ?_ _ | with_reducible refine bdrew ?_ | with_reducible refine below_drewN ?_ _ | with_reducible refine bset ?_ ?_ _ | with_reducible exact Nat.le_refl _ | with_reducible refine bsize ?_ | (dsimp only; refine Nat.le_trans ?_ (Nat.le_add_right _ _)) | with_reducible refine Nat.le_trans ?_ (Nat.le_add_right _ _) | (with_reducible refine bstep ?_ (by assumption))))
            · have hk : fwK l a b f = true := by simp [fwK, h1, h2, h3, h4]; omega
              rw [hk, (two_yes (f * l) (a + b)).1, (two_yes (f * l) (a + b)).2.1, (two_yes (f * l) (a + b)).2.2]
              have m1 : 0 ≤ f * l ∧ f * l ≤ 1000 * 1000 := ⟨Int.mul_nonneg (by omega) (by omega), Int.mul_le_mul (by omega) (by omega) (by omega) (by omega)⟩
              have HM := Lib.hid (fun W => make_spec (f * l) (a + b) m1.1 (by omega) (by omega) (by omega) W)
              clear hk
              go_enter Try.func32, Try.ntmps32
              go_wp2_with (first | (go_at_call 60; refine (one_spec _ _).mono ?_; rintro e w2 ⟨rfl, rfl⟩; first | rw [h1] | rw [h2] | rw [h3] | rw [h4]) | (go_at_call 46; refine (HM.out _).mono ?_; rintro e w1 ⟨rfl, hb1⟩; obtain ⟨kc1, kf1, kz1, ky1, kx1, kv1, ku1⟩ := bcell hb1))
              refine bodyPost_ret (v := .tuple #[.agg #[.int .i64 (lowN (f * l) (a + b)), .int .i64 (lowD (f * l) (a + b))], .bool (lowB (f * l) (a + b))]) (by simp only [results, Try.results32]; go_simp) rfl ⟨rfl, ?_⟩
              (repeat (first | with_reducible exact Below.refl _ _ | with_reducible assumption | with_reducible refine balloc ?_ _ | with_reducible refine bdrew ?_ | with_reducible refine below_drewN ?_ _ | with_reducible refine bset ?_ ?_ _ | with_reducible exact Nat.le_refl _ | with_reducible refine bsize ?_ | (dsimp only; refine Nat.le_trans ?_ (Nat.le_add_right _ _)) | with_reducible refine Nat.le_trans ?_ (Nat.le_add_right _ _) | (with_reducible refine bstep ?_ (by assumption))))
def clK (l s r : Int) : Bool := trP l && trP s && trP r && decide (s < r)
theorem clK_yes {l s r : Int} (h : clK l s r = true) : (1 ≤ l ∧ l ≤ 1000) ∧ (1 ≤ s ∧ s ≤ 1000) ∧ (1 ≤ r ∧ r ≤ 1000) ∧ s < r := by
  simp [clK, trP, inB] at h; omega
structure ClBd (l s r : Int) : Prop where
  lr : 1 ≤ 2 * l * r ∧ 2 * l * r ≤ 2000000
  rr : 1 ≤ r * r ∧ r * r ≤ 1000000
  ss : 1 ≤ s * s ∧ s * s ≤ 1000000
  d : 1 ≤ r * r - s * s
  e : r * r - s * s = (r - s) * (r + s)
  lrr : 0 ≤ 2 * l * r * r ∧ 2 * l * r * r ≤ 2000000000
theorem cl_bd {l s r : Int} (h : clK l s r = true) : ClBd l s r := by
  obtain ⟨l0, s0, r0, h0⟩ := clK_yes h
  have a1 : 2 * l * r ≤ 2000 * 1000 := Int.mul_le_mul (by omega) (by omega) (by omega) (by omega)
  have a2 : 0 < 2 * l * r := Int.mul_pos (by omega) (by omega)
  have b1 : r * r ≤ 1000 * 1000 := Int.mul_le_mul (by omega) (by omega) (by omega) (by omega)
  have b2 : 0 < r * r := Int.mul_pos (by omega) (by omega)
  have c1 : s * s ≤ 1000 * 1000 := Int.mul_le_mul (by omega) (by omega) (by omega) (by omega)
  have c2 : 0 < s * s := Int.mul_pos (by omega) (by omega)
  have e : r * r - s * s = (r - s) * (r + s) := by grind
  have e1 : 0 < (r - s) * (r + s) := Int.mul_pos (by omega) (by omega)
  have f1 : 2 * l * r * r ≤ 2000000 * 1000 := Int.mul_le_mul (by omega) (by omega) (by omega) (by omega)
  have f2 : 0 ≤ 2 * l * r * r := Int.mul_nonneg (by omega) (by omega)
  exact ⟨by omega, by omega, by omega, by omega, e, by omega⟩
/-- The time up and back. -/
theorem cl_low {l s r : Int} (h : clK l s r = true) :
    lowB (lowN l (r - s) * lowD l (r + s) + lowN l (r + s) * lowD l (r - s)) (lowD l (r - s) * lowD l (r + s)) = lowB (2 * l * r) (r * r - s * s) ∧
    lowN (lowN l (r - s) * lowD l (r + s) + lowN l (r + s) * lowD l (r - s)) (lowD l (r - s) * lowD l (r + s)) = lowN (2 * l * r) (r * r - s * s) ∧
    lowD (lowN l (r - s) * lowD l (r + s) + lowN l (r + s) * lowD l (r - s)) (lowD l (r - s) * lowD l (r + s)) = lowD (2 * l * r) (r * r - s * s) := by
  obtain ⟨l0, s0, r0, h0⟩ := clK_yes h
  have B := cl_bd h
  have e1 := low_eq l (r - s) (low_small l (r - s) (by omega) (by omega) (by omega) (by omega))
  have e2 := low_eq l (r + s) (low_small l (r + s) (by omega) (by omega) (by omega) (by omega))
  have f1 := e1.1
  have f2 := e2.1
  refine lw_cross _ _ _ _ ?_ B.d ?_
  · have := Int.mul_pos (show 0 < lowD l (r - s) by omega) (show 0 < lowD l (r + s) by omega); omega
  · have be := B.e
    generalize lowN l (r - s) = p at *
    generalize lowD l (r - s) = q at *
    generalize lowN l (r + s) = p' at *
    generalize lowD l (r + s) = q' at *
    clear e1 e2 B h l0 s0 r0 h0
    rw [be]
    grind
set_option maxHeartbeats 1600000 in
theorem cvColumn_spec (l s r : Int) (w : World) :
    Calls Try.prog 57 #[.int .i64 l, .int .i64 s, .int .i64 r] w fun e w' => e = .returned (.bool (clK l s r)) ∧ w = w' := by
  cases h1 : trP l
  · rw [show clK l s r = false by simp [clK, h1]]
    go_enter Try.func57, Try.ntmps57
    go_wp2_with (go_at_call 60; refine (one_spec _ _).mono ?_; rintro e w2 ⟨rfl, rfl⟩; first | rw [h1])
    go_ret
    exact ⟨rfl, rfl⟩
  · skip
    cases h2 : trP s
    · rw [show clK l s r = false by simp [clK, h2]]
      go_enter Try.func57, Try.ntmps57
      go_wp2_with (go_at_call 60; refine (one_spec _ _).mono ?_; rintro e w2 ⟨rfl, rfl⟩; first | rw [h1] | rw [h2])
      go_ret
      exact ⟨rfl, rfl⟩
    · skip
      cases h3 : trP r
      · rw [show clK l s r = false by simp [clK, h3]]
        go_enter Try.func57, Try.ntmps57
        go_wp2_with (go_at_call 60; refine (one_spec _ _).mono ?_; rintro e w2 ⟨rfl, rfl⟩; first | rw [h1] | rw [h2] | rw [h3])
        go_ret
        exact ⟨rfl, rfl⟩
      · skip
        rw [show clK l s r = decide (s < r) by simp [clK, h1, h2, h3]]
        go_enter Try.func57, Try.ntmps57
        go_wp2_with (go_at_call 60; refine (one_spec _ _).mono ?_; rintro e w2 ⟨rfl, rfl⟩; first | rw [h1] | rw [h2] | rw [h3])
        go_ret
        exact ⟨by simp, rfl⟩
set_option maxHeartbeats 3200000 in
theorem colT_spec (l s r : Int) (w : World) :
    Calls Try.prog 28 #[.int .i64 l, .int .i64 s, .int .i64 r] w fun e w' => e = .returned (.tuple #[.agg #[.int .i64 (twoN (clK l s r) (2 * l * r) (r * r - s * s)), .int .i64 (twoD (clK l s r) (2 * l * r) (r * r - s * s))], .bool (twoB (clK l s r) (2 * l * r) (r * r - s * s))]) ∧ Below w.heap.size w w' := by
  have HC := Lib.hid (fun W => cvColumn_spec l s r W)
  cases hk : clK l s r
  · rw [(two_no _ _).1, (two_no _ _).2.1, (two_no _ _).2.2]
    rw [hk] at HC
    clear hk
    go_enter Try.func28, Try.ntmps28
    go_wp2_with fail
    refine (HC.out _).mono ?_
    rintro e w1 ⟨rfl, rfl⟩
    go_wp2
    refine bodyPost_ret (v := .tuple #[.agg #[.int .i64 0, .int .i64 0], .bool false]) (by simp only [results, Try.results28]; go_simp) rfl ⟨rfl, ?_⟩
    (repeat (first | with_reducible exact Below.refl _ _ | with_reducible assumption | with_reducible refine balloc ?_ _ | with_reducible refine bdrew ?_ | with_reducible refine below_drewN ?_ _ | with_reducible refine bset ?_ ?_ _ | with_reducible exact Nat.le_refl _ | with_reducible refine bsize ?_ | (dsimp only; refine Nat.le_trans ?_ (Nat.le_add_right _ _)) | with_reducible refine Nat.le_trans ?_ (Nat.le_add_right _ _) | (with_reducible refine bstep ?_ (by assumption))))
  · rw [(two_yes _ _).1, (two_yes _ _).2.1, (two_yes _ _).2.2]
    rw [hk] at HC
    obtain ⟨l0, s0, r0, h0⟩ := clK_yes hk
    obtain ⟨lr, rr, ss, d0, hE, lrr⟩ := cl_bd hk
    clear hE
    clear hk
    have HM := Lib.hid (fun W => make_spec (2 * l * r) (r * r - s * s) (by omega) d0 (by omega) (by omega) W)
    go_enter Try.func28, Try.ntmps28
    go_wp2_with fail
    refine (HC.out _).mono ?_
    rintro e w1 ⟨rfl, rfl⟩
    go_wp2_with fail
    refine (HM.out _).mono ?_
    rintro e w2 ⟨rfl, hb2⟩
    obtain ⟨kc2, kf2, kz2, ky2, kx2, kv2, ku2⟩ := bcell hb2
    go_wp2
    refine bodyPost_ret (v := .tuple #[.agg #[.int .i64 (lowN (2 * l * r) (r * r - s * s)), .int .i64 (lowD (2 * l * r) (r * r - s * s))], .bool (lowB (2 * l * r) (r * r - s * s))]) (by simp only [results, Try.results28]; go_simp) rfl ⟨rfl, ?_⟩
    (repeat (first | with_reducible exact Below.refl _ _ | with_reducible assumption | with_reducible refine balloc ?_ _ | with_reducible refine bdrew ?_ | with_reducible refine below_drewN ?_ _ | with_reducible refine bset ?_ ?_ _ | with_reducible exact Nat.le_refl _ | with_reducible refine bsize ?_ | (dsimp only; refine Nat.le_trans ?_ (Nat.le_add_right _ _)) | with_reducible refine Nat.le_trans ?_ (Nat.le_add_right _ _) | (with_reducible refine bstep ?_ (by assumption))))
set_option maxHeartbeats 3200000 in
theorem colW_spec (l s r : Int) (w : World) :
    Calls Try.prog 30 #[.int .i64 l, .int .i64 s, .int .i64 r] w fun e w' => e = .returned (.tuple #[.agg #[.int .i64 (twoN (clK l s r) (2 * l * r * r) (r * r - s * s)), .int .i64 (twoD (clK l s r) (2 * l * r * r) (r * r - s * s))], .bool (twoB (clK l s r) (2 * l * r * r) (r * r - s * s))]) ∧ Below w.heap.size w w' := by
  have HC := Lib.hid (fun W => cvColumn_spec l s r W)
  cases hk : clK l s r
  · rw [(two_no _ _).1, (two_no _ _).2.1, (two_no _ _).2.2]
    rw [hk] at HC
    clear hk
    go_enter Try.func30, Try.ntmps30
    go_wp2_with fail
    refine (HC.out _).mono ?_
    rintro e w1 ⟨rfl, rfl⟩
    go_wp2
    refine bodyPost_ret (v := .tuple #[.agg #[.int .i64 0, .int .i64 0], .bool false]) (by simp only [results, Try.results30]; go_simp) rfl ⟨rfl, ?_⟩
    (repeat (first | with_reducible exact Below.refl _ _ | with_reducible assumption | with_reducible refine balloc ?_ _ | with_reducible refine bdrew ?_ | with_reducible refine below_drewN ?_ _ | with_reducible refine bset ?_ ?_ _ | with_reducible exact Nat.le_refl _ | with_reducible refine bsize ?_ | (dsimp only; refine Nat.le_trans ?_ (Nat.le_add_right _ _)) | with_reducible refine Nat.le_trans ?_ (Nat.le_add_right _ _) | (with_reducible refine bstep ?_ (by assumption))))
  · rw [(two_yes _ _).1, (two_yes _ _).2.1, (two_yes _ _).2.2]
    rw [hk] at HC
    obtain ⟨l0, s0, r0, h0⟩ := clK_yes hk
    obtain ⟨lr, rr, ss, d0, hE, lrr⟩ := cl_bd hk
    clear hE
    clear hk
    have HM := Lib.hid (fun W => make_spec (2 * l * r * r) (r * r - s * s) (by omega) d0 (by omega) (by omega) W)
    go_enter Try.func30, Try.ntmps30
    go_wp2_with fail
    refine (HC.out _).mono ?_
    rintro e w1 ⟨rfl, rfl⟩
    go_wp2_with fail
    refine (HM.out _).mono ?_
    rintro e w2 ⟨rfl, hb2⟩
    obtain ⟨kc2, kf2, kz2, ky2, kx2, kv2, ku2⟩ := bcell hb2
    go_wp2
    refine bodyPost_ret (v := .tuple #[.agg #[.int .i64 (lowN (2 * l * r * r) (r * r - s * s)), .int .i64 (lowD (2 * l * r * r) (r * r - s * s))], .bool (lowB (2 * l * r * r) (r * r - s * s))]) (by simp only [results, Try.results30]; go_simp) rfl ⟨rfl, ?_⟩
    (repeat (first | with_reducible exact Below.refl _ _ | with_reducible assumption | with_reducible refine balloc ?_ _ | with_reducible refine bdrew ?_ | with_reducible refine below_drewN ?_ _ | with_reducible refine bset ?_ ?_ _ | with_reducible exact Nat.le_refl _ | with_reducible refine bsize ?_ | (dsimp only; refine Nat.le_trans ?_ (Nat.le_add_right _ _)) | with_reducible refine Nat.le_trans ?_ (Nat.le_add_right _ _) | (with_reducible refine bstep ?_ (by assumption))))
set_option maxHeartbeats 6400000 in
theorem colT_impl (l s r : Int) (b0 : -9223372036854775808 ≤ l ∧ l ≤ 9223372036854775807) (b1 : -9223372036854775808 ≤ s ∧ s ≤ 9223372036854775807) (b2 : -9223372036854775808 ≤ r ∧ r ≤ 9223372036854775807) (w : World) :
    Calls Try.prog 29 #[.int .i64 l, .int .i64 s, .int .i64 r] w fun e w' => e = .returned (.tuple #[.agg #[.int .i64 (twoN (clK l s r) (2 * l * r) (r * r - s * s)), .int .i64 (twoD (clK l s r) (2 * l * r) (r * r - s * s))], .bool (twoB (clK l s r) (2 * l * r) (r * r - s * s))]) ∧ Below w.heap.size w w' := by
  have HT := Lib.hid (fun g W h0 h1 h2 => tr3 l s r b0 b1 b2 g W h0 h1 h2)
  cases hk : (trP l && trP s && trP r)
  · obtain ⟨e1, e2, e3⟩ := nolow8 (clK l s r) (2 * l * r) (r * r - s * s) (by simp only [clK, hk, Bool.false_and])
    rw [e1, e2, e3]; clear e1 e2 e3
    rw [hk] at HT
    clear hk
    go_enter Try.func29, Try.ntmps29
    go_wp2_with fail
    refine (HT.out _ _ (by simp [go_sem]) (by simp [go_sem]) (by simp [go_sem])).mono ?_
    rintro e w1 ⟨rfl, hb1⟩
    (have ha1 : Below w.heap.size w w1 := by (repeat (first | with_reducible exact Below.refl _ _ | with_reducible assumption | with_reducible refine balloc ?_ _ | with_reducible refine bdrew ?_ | with_reducible refine below_drewN ?_ _ | with_reducible refine bset ?_ ?_ _ | with_reducible exact Nat.le_refl _ | with_reducible refine bsize ?_ | (dsimp only; refine Nat.le_trans ?_ (Nat.le_add_right _ _)) | with_reducible refine Nat.le_trans ?_ (Nat.le_add_right _ _) | (with_reducible refine bstep ?_ (by assumption)))))
    obtain ⟨kc1, kf1, kz1, ky1, kx1, kv1, ku1⟩ := bcell hb1
    have r1 : w1.cell? ⟨w.heap.size, 0, none⟩ = some (.int .i64 0) := (by rw [kc1 (w.heap.size) _ (by first | (simp; done) | (simp; omega))]; first | (simp; done) | (simp [go_sem]; done)); have r2 : w1.cell? ⟨w.heap.size, 1, none⟩ = some (.int .i64 0) := (by rw [kc1 (w.heap.size) _ (by first | (simp; done) | (simp; omega))]; first | (simp; done) | (simp [go_sem]; done)); have r3 : w1.frozen? ⟨w.heap.size, 0, none⟩ = false := (by rw [kf1 (w.heap.size) _ (by first | (simp; done) | (simp; omega))]; first | (simp; done) | (simp [go_sem]; done)); have r4 : w1.frozen? ⟨w.heap.size, 1, none⟩ = false := (by rw [kf1 (w.heap.size) _ (by first | (simp; done) | (simp; omega))]; first | (simp; done) | (simp [go_sem]; done)); have rz : w.heap.size < w1.heap.size := kz1 (w.heap.size) (by first | (simp; done) | (simp; omega))
    clear kc1 kf1 kz1 ky1 kx1 kv1 ku1 hb1
    go_wp2
    refine bodyPost_ret (v := .tuple #[.agg #[.int .i64 0, .int .i64 0], .bool false]) (by simp only [results, Try.results29]; go_simp) rfl ⟨rfl, ?_⟩
    (repeat (first | with_reducible exact Below.refl _ _ | with_reducible assumption | with_reducible refine balloc ?_ _ | with_reducible refine bdrew ?_ | with_reducible refine below_drewN ?_ _ | with_reducible refine bset ?_ ?_ _ | with_reducible exact Nat.le_refl _ | with_reducible refine bsize ?_ | (dsimp only; refine Nat.le_trans ?_ (Nat.le_add_right _ _)) | with_reducible refine Nat.le_trans ?_ (Nat.le_add_right _ _) | (with_reducible refine bstep ?_ (by assumption))))
  · rw [hk] at HT
    have hj : (1 ≤ l ∧ l ≤ 1000) ∧ (1 ≤ s ∧ s ≤ 1000) ∧ (1 ≤ r ∧ r ≤ 1000) := by simp [trP, inB] at hk; omega
    by_cases hf : s < r
    · have hK : clK l s r = true := by simp only [clK, hk, Bool.true_and, decide_eq_true hf]
      rw [hK, (two_yes _ _).1, (two_yes _ _).2.1, (two_yes _ _).2.2]
      obtain ⟨q1, q2, q3⟩ := cl_low hK
      rw [← q1, ← q2, ← q3]
      have hl1 := low_small l (r - s) (by omega) (by omega) (by omega) (by omega)
      have hl2 := low_small l (r + s) (by omega) (by omega) (by omega) (by omega)
      have HF1 := Lib.hid (fun W g h1 => tf1 (r - s) l (by omega) (by omega) g W h1)
      have HF2 := Lib.hid (fun W g h1 => tf1 (r + s) l (by omega) (by omega) g W h1)
      rw [hl1] at HF1
      rw [hl2] at HF2
      have HM := Lib.hid (fun W => add_ok_impl (lowN l (r - s)) (lowD l (r - s)) (lowN l (r + s)) (lowD l (r + s)) (amB_low _ _ hl1) (amB_low _ _ hl2) W)
      clear q1 q2 q3 hl1 hl2 hK hk
      generalize lowN l (r - s) = p at *
      generalize lowD l (r - s) = q at *
      generalize lowN l (r + s) = p' at *
      generalize lowD l (r + s) = q' at *
      generalize p * q' + p' * q = X at *
      generalize q * q' = Y at *
      obtain ⟨R1, hR1⟩ : ∃ R, lowN X Y = R := ⟨_, rfl⟩
      obtain ⟨R2, hR2⟩ : ∃ R, lowD X Y = R := ⟨_, rfl⟩
      obtain ⟨R3, hR3⟩ : ∃ R, lowB X Y = R := ⟨_, rfl⟩
      rw [hR1, hR2, hR3]; rw [hR1, hR2, hR3] at HM
      clear hR1 hR2 hR3
      go_enter Try.func29, Try.ntmps29
      go_wp2_with fail
      refine (HT.out _ _ (by simp [go_sem]) (by simp [go_sem]) (by simp [go_sem])).mono ?_
      rintro e w1 ⟨rfl, hb1⟩
      (have ha1 : Below w.heap.size w w1 := by (repeat (first | with_reducible exact Below.refl _ _ | with_reducible assumption | with_reducible refine balloc ?_ _ | with_reducible refine bdrew ?_ | with_reducible refine below_drewN ?_ _ | with_reducible refine bset ?_ ?_ _ | with_reducible exact Nat.le_refl _ | with_reducible refine bsize ?_ | (dsimp only; refine Nat.le_trans ?_ (Nat.le_add_right _ _)) | with_reducible refine Nat.le_trans ?_ (Nat.le_add_right _ _) | (with_reducible refine bstep ?_ (by assumption)))))
      obtain ⟨kc1, kf1, kz1, ky1, kx1, kv1, ku1⟩ := bcell hb1
      have r1 : w1.cell? ⟨w.heap.size, 0, none⟩ = some (.int .i64 0) := (by rw [kc1 (w.heap.size) _ (by first | (simp; done) | (simp; omega))]; first | (simp; done) | (simp [go_sem]; done)); have r2 : w1.cell? ⟨w.heap.size, 1, none⟩ = some (.int .i64 0) := (by rw [kc1 (w.heap.size) _ (by first | (simp; done) | (simp; omega))]; first | (simp; done) | (simp [go_sem]; done)); have r3 : w1.frozen? ⟨w.heap.size, 0, none⟩ = false := (by rw [kf1 (w.heap.size) _ (by first | (simp; done) | (simp; omega))]; first | (simp; done) | (simp [go_sem]; done)); have r4 : w1.frozen? ⟨w.heap.size, 1, none⟩ = false := (by rw [kf1 (w.heap.size) _ (by first | (simp; done) | (simp; omega))]; first | (simp; done) | (simp [go_sem]; done)); have rz : w.heap.size < w1.heap.size := kz1 (w.heap.size) (by first | (simp; done) | (simp; omega))
      clear kc1 kf1 kz1 ky1 kx1 kv1 ku1 hb1
      go_wp2_with fail
      refine (HF1.out _ _ (by simp [go_sem])).mono ?_
      rintro e w2 ⟨rfl, hb2⟩
      (have rb : Below w1.heap.size w1 w2 := bstep (by (repeat (first | with_reducible exact Below.refl _ _ | with_reducible assumption | with_reducible refine balloc ?_ _ | with_reducible refine bdrew ?_ | with_reducible refine below_drewN ?_ _ | with_reducible refine bset ?_ ?_ _ | with_reducible exact Nat.le_refl _ | with_reducible refine bsize ?_ | (dsimp only; refine Nat.le_trans ?_ (Nat.le_add_right _ _)) | with_reducible refine Nat.le_trans ?_ (Nat.le_add_right _ _) | (with_reducible refine bstep ?_ (by assumption))))) hb2); replace r1 := keepa rb rz r1; replace r2 := keepa rb rz r2; replace r3 := keepz rb rz r3; replace r4 := keepz rb rz r4; replace rz := Nat.lt_of_lt_of_le rz rb.size; clear rb
      (have ha2 : Below w.heap.size w w2 := by (repeat (first | with_reducible exact Below.refl _ _ | with_reducible assumption | with_reducible refine balloc ?_ _ | with_reducible refine bdrew ?_ | with_reducible refine below_drewN ?_ _ | with_reducible refine bset ?_ ?_ _ | with_reducible exact Nat.le_refl _ | with_reducible refine bsize ?_ | (dsimp only; refine Nat.le_trans ?_ (Nat.le_add_right _ _)) | with_reducible refine Nat.le_trans ?_ (Nat.le_add_right _ _) | (with_reducible refine bstep ?_ (by assumption)))))
      clear hb2
      go_wp2_with fail
      refine (HF2.out _ _ (by simp [go_sem])).mono ?_
      rintro e w3 ⟨rfl, hb3⟩
      (have ha3 : Below w.heap.size w w3 := by (repeat (first | with_reducible exact Below.refl _ _ | with_reducible assumption | with_reducible refine balloc ?_ _ | with_reducible refine bdrew ?_ | with_reducible refine below_drewN ?_ _ | with_reducible refine bset ?_ ?_ _ | with_reducible exact Nat.le_refl _ | with_reducible refine bsize ?_ | (dsimp only; refine Nat.le_trans ?_ (Nat.le_add_right _ _)) | with_reducible refine Nat.le_trans ?_ (Nat.le_add_right _ _) | (with_reducible refine bstep ?_ (by assumption)))))
      (have hc0 : w3.cell? ⟨w2.heap.size, 0, none⟩ = some (.int .i64 p) := keepa hb3 (by first | (simp; done) | (simp; omega)) (by simp [go_sem]))
      (have hc1 : w3.cell? ⟨w2.heap.size, 1, none⟩ = some (.int .i64 q) := keepa hb3 (by first | (simp; done) | (simp; omega)) (by simp [go_sem]))
      (have hz3 : w2.heap.size < w3.heap.size := Nat.lt_of_lt_of_le (by first | (simp; done) | (simp; omega)) hb3.size)
      (have rb : Below w2.heap.size w2 w3 := bstep (by (repeat (first | with_reducible exact Below.refl _ _ | with_reducible assumption | with_reducible refine balloc ?_ _ | with_reducible refine bdrew ?_ | with_reducible refine below_drewN ?_ _ | with_reducible refine bset ?_ ?_ _ | with_reducible exact Nat.le_refl _ | with_reducible refine bsize ?_ | (dsimp only; refine Nat.le_trans ?_ (Nat.le_add_right _ _)) | with_reducible refine Nat.le_trans ?_ (Nat.le_add_right _ _) | (with_reducible refine bstep ?_ (by assumption))))) hb3); replace r1 := keepa rb rz r1; replace r2 := keepa rb rz r2; replace r3 := keepz rb rz r3; replace r4 := keepz rb rz r4; replace rz := Nat.lt_of_lt_of_le rz rb.size; clear rb
      clear hb3
      go_wp2_with fail
      refine (HM.out _).mono ?_
      rintro e w4 ⟨rfl, hb4⟩
      (have rb : Below w3.heap.size w3 w4 := bstep (by (repeat (first | with_reducible exact Below.refl _ _ | with_reducible assumption | with_reducible refine balloc ?_ _ | with_reducible refine bdrew ?_ | with_reducible refine below_drewN ?_ _ | with_reducible refine bset ?_ ?_ _ | with_reducible exact Nat.le_refl _ | with_reducible refine bsize ?_ | (dsimp only; refine Nat.le_trans ?_ (Nat.le_add_right _ _)) | with_reducible refine Nat.le_trans ?_ (Nat.le_add_right _ _) | (with_reducible refine bstep ?_ (by assumption))))) hb4); replace r1 := keepa rb rz r1; replace r2 := keepa rb rz r2; replace r3 := keepz rb rz r3; replace r4 := keepz rb rz r4; replace rz := Nat.lt_of_lt_of_le rz rb.size; clear rb
      go_wp2
      refine bodyPost_ret (v := .tuple #[.agg #[.int .i64 R1, .int .i64 R2], .bool R3]) (by simp only [results, Try.results29]; go_simp) rfl ⟨rfl, ?_⟩
      (repeat (first | with_reducible exact Below.refl _ _ | with_reducible assumption | with_reducible refine balloc ?_ _ | with_reducible refine bdrew ?_ | with_reducible refine below_drewN ?_ _ | with_reducible refine bset ?_ ?_ _ | with_reducible exact Nat.le_refl _ | with_reducible refine bsize ?_ | (dsimp only; refine Nat.le_trans ?_ (Nat.le_add_right _ _)) | with_reducible refine Nat.le_trans ?_ (Nat.le_add_right _ _) | (with_reducible refine bstep ?_ (by assumption))))
    · obtain ⟨e1, e2, e3⟩ := nolow8 (clK l s r) (2 * l * r) (r * r - s * s) (by simp only [clK, hk, Bool.true_and, decide_eq_false hf])
      rw [e1, e2, e3]; clear e1 e2 e3 hk
      go_enter Try.func29, Try.ntmps29
      go_wp2_with fail
      refine (HT.out _ _ (by simp [go_sem]) (by simp [go_sem]) (by simp [go_sem])).mono ?_
      rintro e w1 ⟨rfl, hb1⟩
      (have ha1 : Below w.heap.size w w1 := by (repeat (first | with_reducible exact Below.refl _ _ | with_reducible assumption | with_reducible refine balloc ?_ _ | with_reducible refine bdrew ?_ | with_reducible refine below_drewN ?_ _ | with_reducible refine bset ?_ ?_ _ | with_reducible exact Nat.le_refl _ | with_reducible refine bsize ?_ | (dsimp only; refine Nat.le_trans ?_ (Nat.le_add_right _ _)) | with_reducible refine Nat.le_trans ?_ (Nat.le_add_right _ _) | (with_reducible refine bstep ?_ (by assumption)))))
      obtain ⟨kc1, kf1, kz1, ky1, kx1, kv1, ku1⟩ := bcell hb1
      have r1 : w1.cell? ⟨w.heap.size, 0, none⟩ = some (.int .i64 0) := (by rw [kc1 (w.heap.size) _ (by first | (simp; done) | (simp; omega))]; first | (simp; done) | (simp [go_sem]; done)); have r2 : w1.cell? ⟨w.heap.size, 1, none⟩ = some (.int .i64 0) := (by rw [kc1 (w.heap.size) _ (by first | (simp; done) | (simp; omega))]; first | (simp; done) | (simp [go_sem]; done)); have r3 : w1.frozen? ⟨w.heap.size, 0, none⟩ = false := (by rw [kf1 (w.heap.size) _ (by first | (simp; done) | (simp; omega))]; first | (simp; done) | (simp [go_sem]; done)); have r4 : w1.frozen? ⟨w.heap.size, 1, none⟩ = false := (by rw [kf1 (w.heap.size) _ (by first | (simp; done) | (simp; omega))]; first | (simp; done) | (simp [go_sem]; done)); have rz : w.heap.size < w1.heap.size := kz1 (w.heap.size) (by first | (simp; done) | (simp; omega))
      clear kc1 kf1 kz1 ky1 kx1 kv1 ku1 hb1
      go_wp2
      refine bodyPost_ret (v := .tuple #[.agg #[.int .i64 0, .int .i64 0], .bool false]) (by simp only [results, Try.results29]; go_simp) rfl ⟨rfl, ?_⟩
      (repeat (first | with_reducible exact Below.refl _ _ | with_reducible assumption | with_reducible refine balloc ?_ _ | with_reducible refine bdrew ?_ | with_reducible refine below_drewN ?_ _ | with_reducible refine bset ?_ ?_ _ | with_reducible exact Nat.le_refl _ | with_reducible refine bsize ?_ | (dsimp only; refine Nat.le_trans ?_ (Nat.le_add_right _ _)) | with_reducible refine Nat.le_trans ?_ (Nat.le_add_right _ _) | (with_reducible refine bstep ?_ (by assumption))))
theorem clw_low {l s r : Int} (h : clK l s r = true) :
    lowB (2 * l * r) (r * r - s * s) = true ∧ lowB (lowN (2 * l * r) (r * r - s * s) * r) (lowD (2 * l * r) (r * r - s * s)) = lowB (2 * l * r * r) (r * r - s * s) ∧ lowN (lowN (2 * l * r) (r * r - s * s) * r) (lowD (2 * l * r) (r * r - s * s)) = lowN (2 * l * r * r) (r * r - s * s) ∧ lowD (lowN (2 * l * r) (r * r - s * s) * r) (lowD (2 * l * r) (r * r - s * s)) = lowD (2 * l * r * r) (r * r - s * s) := by
  have B := cl_bd h
  have rr := B.rr
  have ss := B.ss
  have lr := B.lr
  have hl := low_small (2 * l * r) (r * r - s * s) (by omega) (by omega) B.d (by omega)
  have := low_times (2 * l * r) (r * r - s * s) r hl
  rw [Int.mul_comm r (2 * l * r)] at this
  exact ⟨hl, this⟩
set_option maxHeartbeats 6400000 in
theorem colW_impl (l s r : Int) (b0 : -9223372036854775808 ≤ l ∧ l ≤ 9223372036854775807) (b1 : -9223372036854775808 ≤ s ∧ s ≤ 9223372036854775807) (b2 : -9223372036854775808 ≤ r ∧ r ≤ 9223372036854775807) (w : World) :
    Calls Try.prog 31 #[.int .i64 l, .int .i64 s, .int .i64 r] w fun e w' => e = .returned (.tuple #[.agg #[.int .i64 (twoN (clK l s r) (2 * l * r * r) (r * r - s * s)), .int .i64 (twoD (clK l s r) (2 * l * r * r) (r * r - s * s))], .bool (twoB (clK l s r) (2 * l * r * r) (r * r - s * s))]) ∧ Below w.heap.size w w' := by
  have HT := Lib.hid (fun W => colT_impl l s r b0 b1 b2 W)
  cases hK : clK l s r
  · rw [(two_no _ _).1, (two_no _ _).2.1, (two_no _ _).2.2]
    rw [hK, (two_no _ _).1, (two_no _ _).2.1, (two_no _ _).2.2] at HT
    clear hK
    go_enter Try.func31, Try.ntmps31
    (go_wp2_with fail; refine (HT.out _).mono ?_; rintro e w1 ⟨rfl, hb1⟩; (have ha1 : Below w.heap.size w w1 := by (repeat (first | with_reducible exact Below.refl _ _ | with_reducible assumption | with_reducible refine balloc ?_ _ | with_reducible refine bdrew ?_ | with_reducible refine below_drewN ?_ _ | with_reducible refine bset ?_ ?_ _ | with_reducible exact Nat.le_refl _ | with_reducible refine bsize ?_ | (dsimp only; refine Nat.le_trans ?_ (Nat.le_add_right _ _)) | with_reducible refine Nat.le_trans ?_ (Nat.le_add_right _ _) | (with_reducible refine bstep ?_ (by assumption))))); obtain ⟨kc1, kf1, kz1, ky1, kx1, kv1, ku1⟩ := bcell hb1)
    have q1_h_0 : w1.cell? ⟨w.heap.size, 0, none⟩ = some (.int .i64 0) := by rw [kc1 _ _ (by first | assumption | (simp; done) | (simp; omega) | omega)]; simp [go_sem]
    have r1_h_0 : w1.frozen? ⟨w.heap.size, 0, none⟩ = false := by rw [kf1 _ _ (by first | assumption | (simp; done) | (simp; omega) | omega)]; simp [go_sem]
    have q1_h_1 : w1.cell? ⟨w.heap.size, 1, none⟩ = some (.int .i64 0) := by rw [kc1 _ _ (by first | assumption | (simp; done) | (simp; omega) | omega)]; simp [go_sem]
    have r1_h_1 : w1.frozen? ⟨w.heap.size, 1, none⟩ = false := by rw [kf1 _ _ (by first | assumption | (simp; done) | (simp; omega) | omega)]; simp [go_sem]
    have z1_h : w.heap.size < w1.heap.size := kz1 _ (by first | assumption | (simp; done) | (simp; omega) | omega)
    clear kc1 kf1 kz1 ky1 kx1 kv1 ku1 hb1
    go_wp2
    refine bodyPost_ret (v := .tuple #[.agg #[.int .i64 0, .int .i64 0], .bool false]) (by simp only [results, Try.results31]; go_simp) rfl ⟨rfl, ?_⟩
    (repeat (first | with_reducible exact Below.refl _ _ | with_reducible assumption | with_reducible refine balloc ?_ _ | with_reducible refine bdrew ?_ | with_reducible refine below_drewN ?_ _ | with_reducible refine bset ?_ ?_ _ | with_reducible exact Nat.le_refl _ | with_reducible refine bsize ?_ | (dsimp only; refine Nat.le_trans ?_ (Nat.le_add_right _ _)) | with_reducible refine Nat.le_trans ?_ (Nat.le_add_right _ _) | (with_reducible refine bstep ?_ (by assumption))))
  · rw [(two_yes _ _).1, (two_yes _ _).2.1, (two_yes _ _).2.2]
    rw [hK, (two_yes _ _).1, (two_yes _ _).2.1, (two_yes _ _).2.2] at HT
    obtain ⟨hl, q1, q2, q3⟩ := clw_low hK
    obtain ⟨l0, s0, r0, h0⟩ := clK_yes hK
    rw [← q1, ← q2, ← q3]
    rw [hl] at HT
    have hA := amB_low _ _ hl
    have hA2 := am_of _ _ hA
    have HM := Lib.hid (fun W => times1_impl (lowN (2 * l * r) (r * r - s * s)) (lowD (2 * l * r) (r * r - s * s)) r (by have := hA2.a; have := hA2.b; omega) (by have := hA2.c; have := hA2.d; omega) (by omega) (by omega) W)
    rw [hA, (two_yes _ _).1, (two_yes _ _).2.1, (two_yes _ _).2.2] at HM
    clear q1 q2 q3 hl hA hA2 hK
    generalize lowN (2 * l * r) (r * r - s * s) = p at *
    generalize lowD (2 * l * r) (r * r - s * s) = q at *
    obtain ⟨R1, hR1⟩ : ∃ R, lowN (p * r) q = R := ⟨_, rfl⟩
    obtain ⟨R2, hR2⟩ : ∃ R, lowD (p * r) q = R := ⟨_, rfl⟩
    obtain ⟨R3, hR3⟩ : ∃ R, lowB (p * r) q = R := ⟨_, rfl⟩
    rw [hR1, hR2, hR3]; rw [hR1, hR2, hR3] at HM
    clear hR1 hR2 hR3
    have HW := Lib.hid (fun W => whole9 r W)
    go_enter Try.func31, Try.ntmps31
    (go_wp2_with fail; refine (HT.out _).mono ?_; rintro e w2 ⟨rfl, hb2⟩; (have ha2 : Below w.heap.size w w2 := by (repeat (first | with_reducible exact Below.refl _ _ | with_reducible assumption | with_reducible refine balloc ?_ _ | with_reducible refine bdrew ?_ | with_reducible refine below_drewN ?_ _ | with_reducible refine bset ?_ ?_ _ | with_reducible exact Nat.le_refl _ | with_reducible refine bsize ?_ | (dsimp only; refine Nat.le_trans ?_ (Nat.le_add_right _ _)) | with_reducible refine Nat.le_trans ?_ (Nat.le_add_right _ _) | (with_reducible refine bstep ?_ (by assumption))))); obtain ⟨kc2, kf2, kz2, ky2, kx2, kv2, ku2⟩ := bcell hb2)
    have q2_h_0 : w2.cell? ⟨w.heap.size, 0, none⟩ = some (.int .i64 0) := by rw [kc2 _ _ (by first | assumption | (simp; done) | (simp; omega) | omega)]; simp [go_sem]
    have r2_h_0 : w2.frozen? ⟨w.heap.size, 0, none⟩ = false := by rw [kf2 _ _ (by first | assumption | (simp; done) | (simp; omega) | omega)]; simp [go_sem]
    have q2_h_1 : w2.cell? ⟨w.heap.size, 1, none⟩ = some (.int .i64 0) := by rw [kc2 _ _ (by first | assumption | (simp; done) | (simp; omega) | omega)]; simp [go_sem]
    have r2_h_1 : w2.frozen? ⟨w.heap.size, 1, none⟩ = false := by rw [kf2 _ _ (by first | assumption | (simp; done) | (simp; omega) | omega)]; simp [go_sem]
    have z2_h : w.heap.size < w2.heap.size := kz2 _ (by first | assumption | (simp; done) | (simp; omega) | omega)
    clear kc2 kf2 kz2 ky2 kx2 kv2 ku2 hb2
    go_wp2_with fail
    have hg0 : w.heap.size < w2.heap.size := z2_h
    have hR : Res8 w.heap.size w2 := ⟨_, _, q2_h_0, q2_h_1, r2_h_0, r2_h_1, z2_h⟩
    clear q2_h_0 q2_h_1 r2_h_0 r2_h_1 z2_h
    have hgn : ¬ (w.heap.size = w2.heap.size) := by omega
    have hgn2 : ¬ (w2.heap.size = w.heap.size) := by omega
    go_region_held3 (fun W => Below w.heap.size w W ∧ Res8 w.heap.size W ∧ w.heap.size < W.heap.size ∧ w2.heap.size < W.heap.size ∧ W.cell? ⟨w2.heap.size, 0, none⟩ = some (.int .i64 p) ∧ W.cell? ⟨w2.heap.size, 1, none⟩ = some (.int .i64 q)) (((go_split_ands; (repeat' with_reducible apply And.intro) <;> first | with_reducible assumption | with_reducible exact Below.refl _ _ | with_reducible exact Res8.drew (by with_reducible assumption) | with_reducible exact Res8.drew (Res8.alloc (by with_reducible assumption) _) | with_reducible exact Res8.alloc (by with_reducible assumption) _ | with_reducible exact (Res8.set (Res8.set (by with_reducible assumption) 0 _ (by omega)) 1 _ (by omega)) | with_reducible exact Res8.drew (Res8.set (Res8.set (by with_reducible assumption) 0 _ (by omega)) 1 _ (by omega)) | ((repeat (first | with_reducible exact Below.refl _ _ | with_reducible assumption | with_reducible refine balloc ?_ _ | with_reducible refine bdrew ?_ | with_reducible refine below_drewN ?_ _ | with_reducible refine bset ?_ ?_ _ | with_reducible exact Nat.le_refl _ | with_reducible refine bsize ?_ | (dsimp only; refine Nat.le_trans ?_ (Nat.le_add_right _ _)) | with_reducible refine Nat.le_trans ?_ (Nat.le_add_right _ _) | (with_reducible refine bstep ?_ (by assumption)))); done) | (simp [go_sem]; done) | (simp; omega) | (simp [go_sem, *]; done) | go_keep))) (first | (go_at_call 56; refine (HW.out _).mono ?_; rintro e w3 ⟨rfl, hb3⟩; (try have fr := Res8.later (by first | with_reducible assumption | with_reducible exact Res8.drew (by with_reducible assumption) | with_reducible exact Res8.drew (Res8.alloc (by with_reducible assumption) _) | with_reducible exact Res8.alloc (by with_reducible assumption) _) hb3); (try (have fr2 := fr; obtain ⟨rx, ry, r1, r2, r3, r4, rz⟩ := fr2)); go_split_ands; (have f0 : Below w.heap.size w w3 := bstep (by first | with_reducible assumption | ((repeat (first | with_reducible exact Below.refl _ _ | with_reducible assumption | with_reducible refine balloc ?_ _ | with_reducible refine bdrew ?_ | with_reducible refine below_drewN ?_ _ | with_reducible refine bset ?_ ?_ _ | with_reducible exact Nat.le_refl _ | with_reducible refine bsize ?_ | (dsimp only; refine Nat.le_trans ?_ (Nat.le_add_right _ _)) | with_reducible refine Nat.le_trans ?_ (Nat.le_add_right _ _) | (with_reducible refine bstep ?_ (by assumption)))); done)) hb3); (have sz := hb3.size); (try simp only [go_sem] at sz); (have f1 : w3.cell? ⟨w2.heap.size, 0, none⟩ = some (.int .i64 p) := keepa hb3 (by first | with_reducible assumption | omega | (simp; omega)) (by first | with_reducible assumption | (simp [go_sem]; done) | (simp [go_sem, *]; done))); (have f2 : w3.cell? ⟨w2.heap.size, 1, none⟩ = some (.int .i64 q) := keepa hb3 (by first | with_reducible assumption | omega | (simp; omega)) (by first | with_reducible assumption | (simp [go_sem]; done) | (simp [go_sem, *]; done))); (have fz1 : w.heap.size < w3.heap.size := by omega); (have fz2 : w2.heap.size < w3.heap.size := by omega)) | (go_at_call 59; refine (HM.out _).mono ?_; rintro e w3 ⟨rfl, hb3⟩; (try have fr := Res8.later (by first | with_reducible assumption | with_reducible exact Res8.drew (by with_reducible assumption) | with_reducible exact Res8.drew (Res8.alloc (by with_reducible assumption) _) | with_reducible exact Res8.alloc (by with_reducible assumption) _) hb3); (try (have fr2 := fr; obtain ⟨rx, ry, r1, r2, r3, r4, rz⟩ := fr2)); go_split_ands; (have f0 : Below w.heap.size w w3 := bstep (by first | with_reducible assumption | ((repeat (first | with_reducible exact Below.refl _ _ | with_reducible assumption | with_reducible refine balloc ?_ _ | with_reducible refine bdrew ?_ | with_reducible refine below_drewN ?_ _ | with_reducible refine bset ?_ ?_ _ | with_reducible exact Nat.le_refl _ | with_reducible refine bsize ?_ | (dsimp only; refine Nat.le_trans ?_ (Nat.le_add_right _ _)) | with_reducible refine Nat.le_trans ?_ (Nat.le_add_right _ _) | (with_reducible refine bstep ?_ (by assumption)))); done)) hb3); (have sz := hb3.size); (try simp only [go_sem] at sz); (have f1 : w3.cell? ⟨w2.heap.size, 0, none⟩ = some (.int .i64 p) := keepa hb3 (by first | with_reducible assumption | omega | (simp; omega)) (by first | with_reducible assumption | (simp [go_sem]; done) | (simp [go_sem, *]; done))); (have f2 : w3.cell? ⟨w2.heap.size, 1, none⟩ = some (.int .i64 q) := keepa hb3 (by first | with_reducible assumption | omega | (simp; omega)) (by first | with_reducible assumption | (simp [go_sem]; done) | (simp [go_sem, *]; done))); (have fz1 : w.heap.size < w3.heap.size := by omega); (have fz2 : w2.heap.size < w3.heap.size := by omega)))
    all_goals go_wp2
    all_goals refine bodyPost_ret (v := .tuple #[.agg #[.int .i64 R1, .int .i64 R2], .bool R3]) (by simp only [results, Try.results31]; go_simp) rfl ⟨rfl, ?_⟩
    all_goals (repeat (first | with_reducible exact Below.refl _ _ | with_reducible assumption | with_reducible refine balloc ?_ _ | with_reducible refine bdrew ?_ | with_reducible refine below_drewN ?_ _ | with_reducible refine bset ?_ ?_ _ | with_reducible exact Nat.le_refl _ | with_reducible refine bsize ?_ | (dsimp only; refine Nat.le_trans ?_ (Nat.le_add_right _ _)) | with_reducible refine Nat.le_trans ?_ (Nat.le_add_right _ _) | (with_reducible refine bstep ?_ (by assumption))))
end Go.Proofs.Ythfaljninmcopaa
