/- Relays: VehiclesToReturn, of the program. -/
import Derived.Test.YtmemfaokhlaodaaRelE
namespace Go.Proofs.Ytmemfaokhlaodaa
open Go.ChangeShapes Go.WideShapes Go.ChangeAt Go.RowKit Go.Joins
set_option maxRecDepth 100000
set_option linter.unusedVariables false
set_option linter.unusedSimpArgs false


set_option maxHeartbeats 1600000 in
theorem fewest_ReturnReach (n d : Int) (bn : -9223372036854775808 ≤ n ∧ n ≤ 9223372036854775807) (bd : -9223372036854775808 ≤ d ∧ d ≤ 9223372036854775807) (w : World) :
    Calls Try.prog 63 #[.agg #[.int .i64 n, .int .i64 d], .func (.func 30) #[] #[]] w fun e w' => e = .returned (.tuple #[.int .i64 (lsN 114 n d), .bool (lsB 114 n d)]) ∧ Below w.heap.size w w' := by
  have hR : ∀ (m : Nat), 0 < m → m < 21 → ∀ W : World, Calls Try.prog 30 #[.int .i64 (m : Int)] W fun e w' => e = .returned (.tuple #[.agg #[.int .i64 (reP 114 m).1, .int .i64 (reP 114 m).2], .bool true]) ∧ Below W.heap.size W w' := by
    intro m h0 h1 W
    have hc := ReturnReach_impl m (by omega) W
    rw [(sh_return (m : Int)).1, (sh_return (m : Int)).2] at hc
    rw [re_in m h0 h1, (re_yes 114 m (re_in m h0 h1)).1, (re_yes 114 m (re_in m h0 h1)).2] at hc
    exact hc
  have hC : ∀ (m : Nat), 0 < m → m < 21 → ∀ W : World, Calls Try.prog 77 #[.agg #[.int .i64 (reP 114 m).1, .int .i64 (reP 114 m).2], .agg #[.int .i64 n, .int .i64 d]] W fun e w' => e = .returned (.tuple #[.int .i64 (cmI (reP 114 m).1 (reP 114 m).2 n d), .bool (okk (reP 114 m).1 (reP 114 m).2 n d)]) ∧ Below W.heap.size W w' :=
    fun m h0 h1 W => compare_impl _ _ n d (re_i64 114 m (Or.inr (Or.inr (Or.inl rfl))) h0 h1).1 (re_i64 114 m (Or.inr (Or.inr (Or.inl rfl))) h0 h1).2 bn bd W
  have HR := Lib.hid hR
  have HC := Lib.hid hC
  clear hR hC
  go_enter Try.func63, Try.ntmps63
  go_wp2
  go_loopw [6] (fun i wr => ∃ k : Nat, 1 ≤ k ∧ k ≤ 21 ∧ i = .int .i64 k ∧ Hid (lstF 114 n d (21 - k) k = lsN 114 n d) ∧ wr.cell? ⟨w.heap.size, 0, none⟩ = some (.int .i64 n) ∧ wr.cell? ⟨w.heap.size, 1, none⟩ = some (.int .i64 d) ∧ w.heap.size < wr.heap.size ∧ Below w.heap.size w wr) (fun i _ => 21 - (intOf i).toNat)
  case atStart =>
    refine ⟨1, by omega, by omega, rfl, rfl, by simp [go_sem], by simp [go_sem], by simp, ?_⟩
    (repeat (first | with_reducible exact Below.refl _ _ | with_reducible assumption | with_reducible refine balloc ?_ _ | with_reducible refine bdrew ?_ | with_reducible refine below_drewN ?_ _ | with_reducible refine bset ?_ ?_ _ | with_reducible exact Nat.le_refl _ | with_reducible refine bsize ?_ | (dsimp only; refine Nat.le_trans ?_ (Nat.le_add_right _ _)) | with_reducible refine Nat.le_trans ?_ (Nat.le_add_right _ _) | (with_reducible refine bstep ?_ (by assumption))))
  case round =>
    obtain ⟨k, hk1, hk, rfl, hfold, c1, c2, hlt0, hbel⟩ := hrel
    by_cases hk20 : k ≤ 20
    · have hcmp := HC.out k hk1 (by omega)
      have hrea := HR.out k hk1 (by omega)
      cases hq : gk 114 n d k
      · have hn := Lib.hid (ls_next 114 n d k hk20 hq hfold.out)
        rcases gk_no 114 n d k (Or.inr (Or.inr (Or.inl rfl))) hk1 (by omega) hq with ho | ⟨ho, hc⟩
        all_goals
          rw [ho] at hcmp
          generalize cmI (reP 114 k).1 (reP 114 k).2 n d = X at *
          have HCC := Lib.hid hcmp
          have HRR := Lib.hid hrea
          clear hcmp hrea hq hfold ho
          (go_wp2_with fail; refine (HRR.out _).mono ?_; rintro e w1 ⟨rfl, hb1⟩; have ha1 := hb1; obtain ⟨kc1, kf1, kz1, ky1, kx1, kv1, ku1⟩ := bcell hb1)
          (go_wp2_with fail; refine (HCC.out _).mono ?_; rintro e w2 ⟨rfl, hb2⟩; have ha2 := bjoin ha1 hb2 (by (repeat (first | with_reducible exact Below.refl _ _ | with_reducible assumption | with_reducible refine balloc ?_ _ | with_reducible refine bdrew ?_ | with_reducible refine below_drewN ?_ _ | with_reducible refine bset ?_ ?_ _ | with_reducible exact Nat.le_refl _ | with_reducible refine bsize ?_ | (dsimp only; refine Nat.le_trans ?_ (Nat.le_add_right _ _)) | with_reducible refine Nat.le_trans ?_ (Nat.le_add_right _ _) | (with_reducible refine bstep ?_ (by assumption))))); obtain ⟨kc2, kf2, kz2, ky2, kx2, kv2, ku2⟩ := bcell hb2; obtain ⟨jc2, jf2, jz2, jy2, jx2, jv2, ju2⟩ := bcell ha2)
          go_wp2
          go_roundw
          case rel =>
            refine ⟨k + 1, by omega, by omega, by go_num, hn, ?_, ?_, ?_, ?_⟩
            all_goals first | ((repeat (first | with_reducible exact Below.refl _ _ | with_reducible assumption | with_reducible refine balloc ?_ _ | with_reducible refine bdrew ?_ | with_reducible refine below_drewN ?_ _ | with_reducible refine bset ?_ ?_ _ | with_reducible exact Nat.le_refl _ | with_reducible refine bsize ?_ | (dsimp only; refine Nat.le_trans ?_ (Nat.le_add_right _ _)) | with_reducible refine Nat.le_trans ?_ (Nat.le_add_right _ _) | (with_reducible refine bstep ?_ (by assumption)))); done) | (simp [go_sem, c1, c2, hlt0, kc2, kc1, kz1, kz2, ky1, jc2, jz2]; done)
          case measure => first | (simp [intOf]; done) | (simp [intOf]; omega)
      · have hn := Lib.hid (ls_at 114 n d k hk20 hq hfold.out hk1)
        obtain ⟨ho, hc⟩ := gk_yes 114 n d k (Or.inr (Or.inr (Or.inl rfl))) hk1 (by omega) hq
        rw [ho] at hcmp
        generalize cmI (reP 114 k).1 (reP 114 k).2 n d = X at *
        have HCC := Lib.hid hcmp
        have HRR := Lib.hid hrea
        clear hcmp hrea hq hfold ho
        (go_wp2_with fail; refine (HRR.out _).mono ?_; rintro e w1 ⟨rfl, hb1⟩; have ha1 := hb1; obtain ⟨kc1, kf1, kz1, ky1, kx1, kv1, ku1⟩ := bcell hb1)
        (go_wp2_with fail; refine (HCC.out _).mono ?_; rintro e w2 ⟨rfl, hb2⟩; have ha2 := bjoin ha1 hb2 (by (repeat (first | with_reducible exact Below.refl _ _ | with_reducible assumption | with_reducible refine balloc ?_ _ | with_reducible refine bdrew ?_ | with_reducible refine below_drewN ?_ _ | with_reducible refine bset ?_ ?_ _ | with_reducible exact Nat.le_refl _ | with_reducible refine bsize ?_ | (dsimp only; refine Nat.le_trans ?_ (Nat.le_add_right _ _)) | with_reducible refine Nat.le_trans ?_ (Nat.le_add_right _ _) | (with_reducible refine bstep ?_ (by assumption))))); obtain ⟨kc2, kf2, kz2, ky2, kx2, kv2, ku2⟩ := bcell hb2; obtain ⟨jc2, jf2, jz2, jy2, jx2, jv2, ju2⟩ := bcell ha2)
        go_wp2
        go_ret2
        refine ⟨by rw [hn.out.1, hn.out.2]; rfl, ?_⟩
        (repeat (first | with_reducible exact Below.refl _ _ | with_reducible assumption | with_reducible refine balloc ?_ _ | with_reducible refine bdrew ?_ | with_reducible refine below_drewN ?_ _ | with_reducible refine bset ?_ ?_ _ | with_reducible exact Nat.le_refl _ | with_reducible refine bsize ?_ | (dsimp only; refine Nat.le_trans ?_ (Nat.le_add_right _ _)) | with_reducible refine Nat.le_trans ?_ (Nat.le_add_right _ _) | (with_reducible refine bstep ?_ (by assumption))))
    · have hk21 : k = 21 := by omega
      subst hk21
      have hn := Lib.hid (ls_end 114 n d hfold.out)
      clear hfold
      go_wp2
      go_ret2
      refine ⟨by rw [hn.out.1, hn.out.2]; rfl, ?_⟩
      (repeat (first | with_reducible exact Below.refl _ _ | with_reducible assumption | with_reducible refine balloc ?_ _ | with_reducible refine bdrew ?_ | with_reducible refine below_drewN ?_ _ | with_reducible refine bset ?_ ?_ _ | with_reducible exact Nat.le_refl _ | with_reducible refine bsize ?_ | (dsimp only; refine Nat.le_trans ?_ (Nat.le_add_right _ _)) | with_reducible refine Nat.le_trans ?_ (Nat.le_add_right _ _) | (with_reducible refine bstep ?_ (by assumption))))
set_option maxHeartbeats 800000 in
theorem VehiclesToReturn_impl (n d : Int) (bn : -9223372036854775808 ≤ n ∧ n ≤ 9223372036854775807) (bd : -9223372036854775808 ≤ d ∧ d ≤ 9223372036854775807) (w : World) :
    Calls Try.prog 37 #[.agg #[.int .i64 n, .int .i64 d]] w fun e w' => e = .returned (.tuple #[.int .i64 (lsN 114 n d), .bool (lsB 114 n d)]) ∧ Below w.heap.size w w' := by
  go_enter Try.func37, Try.ntmps37
  (go_wp2_with fail; refine (fewest_ReturnReach n d bn bd _).mono ?_; rintro e w1 ⟨rfl, hb1⟩; have ha1 := hb1; obtain ⟨kc1, kf1, kz1, ky1, kx1, kv1, ku1⟩ := bcell hb1)
  go_wp2
  go_ret2
  refine ⟨rfl, ?_⟩
  (repeat (first | with_reducible exact Below.refl _ _ | with_reducible assumption | with_reducible refine balloc ?_ _ | with_reducible refine bdrew ?_ | with_reducible refine below_drewN ?_ _ | with_reducible refine bset ?_ ?_ _ | with_reducible exact Nat.le_refl _ | with_reducible refine bsize ?_ | (dsimp only; refine Nat.le_trans ?_ (Nat.le_add_right _ _)) | with_reducible refine Nat.le_trans ?_ (Nat.le_add_right _ _) | (with_reducible refine bstep ?_ (by assumption))))
end Go.Proofs.Ytmemfaokhlaodaa
