/- Contracts of the model's amMake and of MakeAmount on both sides, over the translated program. -/
import Derived.Test.YtgpbkjakmbmccaaIsAm
namespace Go.Proofs.Ytgpbkjakmbmccaa
open Go.RowKit
set_option linter.unusedSimpArgs false

set_option maxHeartbeats 400000 in
theorem make_spec_yes (n d : Int) (h1 : 0 ≤ n) (h2 : 1 ≤ d) (hn' : n ≤ 9223372036854775807) (hd' : d ≤ 9223372036854775807) (hg : amB (n / gi n d) (d / gi n d) = true) (w : World) :
    Calls Try.prog 102 #[.int .i64 n, .int .i64 d] w fun e w' => e = .returned (.tuple #[.agg #[.int .i64 (n / gi n d), .int .i64 (d / gi n d)], .bool true]) ∧ Below w.heap.size w w' := by
  have hg1 := gi_pos n d (by omega)
  have hg2 := gi_le n d h2
  have hq1 := div_bounds n (gi n d) h1 hg1 hn'
  have hq2 := div_bounds d (gi n d) (by omega) hg1 hd'
  go_enter Try.func102, Try.ntmps102
  (go_wp2_with fail; refine (common_spec _ _ (by omega) (by omega) (by omega) (by omega) _).mono ?_; rintro e w1 ⟨rfl, hb1⟩; have ha1 := hb1; obtain ⟨kc1, kf1, kz1, ky1, kx1, kv1, ku1⟩ := bcell hb1)
  go_wp2
  go_region
  (go_wp2_with fail; refine (good_spec _ _ _).mono ?_; rintro e w2 ⟨rfl, hb2⟩; rw [hg]; have ha2 := bjoin ha1 hb2 (by (repeat (first | with_reducible exact Below.refl _ _ | with_reducible assumption | with_reducible refine balloc ?_ _ | with_reducible refine bdrew ?_ | with_reducible refine below_drewN ?_ _ | with_reducible refine bset ?_ ?_ _ | with_reducible exact Nat.le_refl _ | with_reducible refine bsize ?_ | (dsimp only; refine Nat.le_trans ?_ (Nat.le_add_right _ _)) | with_reducible refine Nat.le_trans ?_ (Nat.le_add_right _ _) | (with_reducible refine bstep ?_ (by assumption))))); obtain ⟨kc2, kf2, kz2, ky2, kx2, kv2, ku2⟩ := bcell hb2; obtain ⟨jc2, jf2, jz2, jy2, jx2, jv2, ju2⟩ := bcell ha2)
  go_wp2
  refine bodyPost_ret (v := .tuple #[.agg #[.int .i64 (n / gi n d), .int .i64 (d / gi n d)], .bool true]) (by simp only [results, Try.results102]; go_simp) rfl ⟨rfl, ?_⟩
  (repeat (first | with_reducible exact Below.refl _ _ | with_reducible assumption | with_reducible refine balloc ?_ _ | with_reducible refine bdrew ?_ | with_reducible refine below_drewN ?_ _ | with_reducible refine bset ?_ ?_ _ | with_reducible exact Nat.le_refl _ | with_reducible refine bsize ?_ | (dsimp only; refine Nat.le_trans ?_ (Nat.le_add_right _ _)) | with_reducible refine Nat.le_trans ?_ (Nat.le_add_right _ _) | (with_reducible refine bstep ?_ (by assumption))))

set_option maxHeartbeats 400000 in
theorem make_spec_no (n d : Int) (h1 : 0 ≤ n) (h2 : 1 ≤ d) (hn' : n ≤ 9223372036854775807) (hd' : d ≤ 9223372036854775807) (hg : amB (n / gi n d) (d / gi n d) = false) (w : World) :
    Calls Try.prog 102 #[.int .i64 n, .int .i64 d] w fun e w' => e = .returned (.tuple #[.agg #[.int .i64 0, .int .i64 0], .bool false]) ∧ Below w.heap.size w w' := by
  have hg1 := gi_pos n d (by omega)
  have hg2 := gi_le n d h2
  have hq1 := div_bounds n (gi n d) h1 hg1 hn'
  have hq2 := div_bounds d (gi n d) (by omega) hg1 hd'
  go_enter Try.func102, Try.ntmps102
  (go_wp2_with fail; refine (common_spec _ _ (by omega) (by omega) (by omega) (by omega) _).mono ?_; rintro e w1 ⟨rfl, hb1⟩; have ha1 := hb1; obtain ⟨kc1, kf1, kz1, ky1, kx1, kv1, ku1⟩ := bcell hb1)
  go_wp2
  go_region
  (go_wp2_with fail; refine (good_spec _ _ _).mono ?_; rintro e w2 ⟨rfl, hb2⟩; rw [hg]; have ha2 := bjoin ha1 hb2 (by (repeat (first | with_reducible exact Below.refl _ _ | with_reducible assumption | with_reducible refine balloc ?_ _ | with_reducible refine bdrew ?_ | with_reducible refine below_drewN ?_ _ | with_reducible refine bset ?_ ?_ _ | with_reducible exact Nat.le_refl _ | with_reducible refine bsize ?_ | (dsimp only; refine Nat.le_trans ?_ (Nat.le_add_right _ _)) | with_reducible refine Nat.le_trans ?_ (Nat.le_add_right _ _) | (with_reducible refine bstep ?_ (by assumption))))); obtain ⟨kc2, kf2, kz2, ky2, kx2, kv2, ku2⟩ := bcell hb2; obtain ⟨jc2, jf2, jz2, jy2, jx2, jv2, ju2⟩ := bcell ha2)
  go_wp2
  refine bodyPost_ret (v := .tuple #[.agg #[.int .i64 0, .int .i64 0], .bool false]) (by simp only [results, Try.results102]; go_simp) rfl ⟨rfl, ?_⟩
  (repeat (first | with_reducible exact Below.refl _ _ | with_reducible assumption | with_reducible refine balloc ?_ _ | with_reducible refine bdrew ?_ | with_reducible refine below_drewN ?_ _ | with_reducible refine bset ?_ ?_ _ | with_reducible exact Nat.le_refl _ | with_reducible refine bsize ?_ | (dsimp only; refine Nat.le_trans ?_ (Nat.le_add_right _ _)) | with_reducible refine Nat.le_trans ?_ (Nat.le_add_right _ _) | (with_reducible refine bstep ?_ (by assumption))))

theorem good_low (n d : Int) (h1 : 0 ≤ n) (h2 : 1 ≤ d) : amB (n / gi n d) (d / gi n d) = lowB n d := by
  have hg1 := gi_pos n d (by omega)
  cases hb : lowB n d
  · cases ha : amB (n / gi n d) (d / gi n d)
    · rfl
    · have := (amB_iff _ _).1 ha
      have hb' : lowB n d = true := (lowB_iff n d).2 ⟨h1, h2, this.2.1, this.2.2.2.1⟩
      rw [hb] at hb'; exact absurd hb' (by simp)
  · have := amB_low n d hb
    unfold lowN lowD at this
    rwa [if_pos hb, if_pos hb] at this

/-- The model's amMake: lowest terms, as the program's lowestTerms. -/
theorem make_spec (n d : Int) (h1 : 0 ≤ n) (h2 : 1 ≤ d) (hn' : n ≤ 9223372036854775807) (hd' : d ≤ 9223372036854775807) (w : World) :
    Calls Try.prog 102 #[.int .i64 n, .int .i64 d] w fun e w' => e = .returned (.tuple #[.agg #[.int .i64 (lowN n d), .int .i64 (lowD n d)], .bool (lowB n d)]) ∧ Below w.heap.size w w' := by
  have hgl := good_low n d h1 h2
  cases hb : lowB n d
  · rw [lowN_no n d hb, lowD_no n d hb]
    exact make_spec_no n d h1 h2 hn' hd' (by rw [hgl, hb]) w
  · unfold lowN lowD
    rw [if_pos hb, if_pos hb]
    exact make_spec_yes n d h1 h2 hn' hd' (by rw [hgl, hb]) w

/-- MakeAmount's answer. -/
def mkOk (n d : Int) : Bool := inB n 0 1000000000000000 && inB d 1 1000000000000000
def mkB (n d : Int) : Bool := mkOk n d && lowB n d
def mkN (n d : Int) : Int := if mkOk n d = true then lowN n d else 0
def mkD (n d : Int) : Int := if mkOk n d = true then lowD n d else 0

theorem in_impl (n lo hi : Int) (w : World) :
    Calls Try.prog 49 #[.int .i64 n, .int .i64 lo, .int .i64 hi] w fun e w' => e = .returned (.bool (inB n lo hi)) ∧ w = w' := by
  by_cases h1 : lo ≤ n <;> by_cases h2 : n ≤ hi
  all_goals
    go_enter Try.func49, Try.ntmps49
    go_wp2
    go_ret
    simp [inB, h1, h2]

set_option maxHeartbeats 400000 in
theorem mk_impl (n d : Int) (w : World) :
    Calls Try.prog 8 #[.int .i64 n, .int .i64 d] w fun e w' => e = .returned (.tuple #[.agg #[.int .i64 (mkN n d), .int .i64 (mkD n d)], .bool (mkB n d)]) ∧ Below w.heap.size w w' := by
  cases h1 : inB n 0 1000000000000000
  · have e1 : mkOk n d = false := by simp [mkOk, h1]
    have e2 : mkN n d = 0 := by simp [mkN, e1]
    have e3 : mkD n d = 0 := by simp [mkD, e1]
    have e4 : mkB n d = false := by simp [mkB, e1]
    rw [e2, e3, e4]; clear e1 e2 e3 e4
    go_enter Try.func8, Try.ntmps8
    go_wp2_with (go_at_call 49; refine (in_impl _ _ _ _).mono ?_; rintro e w1 ⟨rfl, rfl⟩; rw [h1])
    refine bodyPost_ret (v := .tuple #[.agg #[.int .i64 0, .int .i64 0], .bool false]) (by simp only [results, Try.results8]; go_simp) rfl ⟨rfl, ?_⟩
    (repeat (first | with_reducible exact Below.refl _ _ | with_reducible assumption | with_reducible refine balloc ?_ _ | with_reducible refine bdrew ?_ | with_reducible refine below_drewN ?_ _ | with_reducible refine bset ?_ ?_ _ | with_reducible exact Nat.le_refl _ | with_reducible refine bsize ?_ | (dsimp only; refine Nat.le_trans ?_ (Nat.le_add_right _ _)) | with_reducible refine Nat.le_trans ?_ (Nat.le_add_right _ _) | (with_reducible refine bstep ?_ (by assumption))))
  · cases h2 : inB d 1 1000000000000000
    · have e1 : mkOk n d = false := by simp [mkOk, h2]
      have e2 : mkN n d = 0 := by simp [mkN, e1]
      have e3 : mkD n d = 0 := by simp [mkD, e1]
      have e4 : mkB n d = false := by simp [mkB, e1]
      rw [e2, e3, e4]; clear e1 e2 e3 e4
      go_enter Try.func8, Try.ntmps8
      go_wp2_with (go_at_call 49; refine (in_impl _ _ _ _).mono ?_; rintro e w1 ⟨rfl, rfl⟩; first | rw [h1] | rw [h2])
      refine bodyPost_ret (v := .tuple #[.agg #[.int .i64 0, .int .i64 0], .bool false]) (by simp only [results, Try.results8]; go_simp) rfl ⟨rfl, ?_⟩
      (repeat (first | with_reducible exact Below.refl _ _ | with_reducible assumption | with_reducible refine balloc ?_ _ | with_reducible refine bdrew ?_ | with_reducible refine below_drewN ?_ _ | with_reducible refine bset ?_ ?_ _ | with_reducible exact Nat.le_refl _ | with_reducible refine bsize ?_ | (dsimp only; refine Nat.le_trans ?_ (Nat.le_add_right _ _)) | with_reducible refine Nat.le_trans ?_ (Nat.le_add_right _ _) | (with_reducible refine bstep ?_ (by assumption))))
    · have b1 : 0 ≤ n ∧ n ≤ 1000000000000000 := by simpa [inB] using h1
      have b2 : 1 ≤ d ∧ d ≤ 1000000000000000 := by simpa [inB] using h2
      have e1 : mkOk n d = true := by simp [mkOk, h1, h2]
      have e2 : mkN n d = lowN n d := by simp [mkN, e1]
      have e3 : mkD n d = lowD n d := by simp [mkD, e1]
      have e4 : mkB n d = lowB n d := by simp [mkB, e1]
      rw [e2, e3, e4]; clear e1 e2 e3 e4
      go_enter Try.func8, Try.ntmps8
      go_wp2_with (first | (go_at_call 49; refine (in_impl _ _ _ _).mono ?_; rintro e w1 ⟨rfl, rfl⟩; first | rw [h1] | rw [h2]) | (go_at_call 50; refine (low_impl _ _ (by omega) (by omega) _).mono ?_; rintro e w1 ⟨rfl, hb1⟩; obtain ⟨kc1, kf1, kz1, ky1, kx1, kv1, ku1⟩ := bcell hb1))
      refine bodyPost_ret (v := .tuple #[.agg #[.int .i64 (lowN n d), .int .i64 (lowD n d)], .bool (lowB n d)]) (by simp only [results, Try.results8]; go_simp) rfl ⟨rfl, ?_⟩
      (repeat (first | with_reducible exact Below.refl _ _ | with_reducible assumption | with_reducible refine balloc ?_ _ | with_reducible refine bdrew ?_ | with_reducible refine below_drewN ?_ _ | with_reducible refine bset ?_ ?_ _ | with_reducible exact Nat.le_refl _ | with_reducible refine bsize ?_ | (dsimp only; refine Nat.le_trans ?_ (Nat.le_add_right _ _)) | with_reducible refine Nat.le_trans ?_ (Nat.le_add_right _ _) | (with_reducible refine bstep ?_ (by assumption))))
end Go.Proofs.Ytgpbkjakmbmccaa
