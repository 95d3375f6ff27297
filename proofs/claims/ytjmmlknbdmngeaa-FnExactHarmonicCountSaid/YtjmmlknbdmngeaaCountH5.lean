/- The contract of the program's countWithin at HarmonicSum. -/
import Derived.Test.YtjmmlknbdmngeaaCountB5
namespace Go.Proofs.Ytjmmlknbdmngeaa
open Go.RowKit
set_option linter.unusedVariables false
set_option linter.unusedSimpArgs false

set_option maxHeartbeats 3200000 in
theorem count_impl_noH (st : Int) (m : Nat) (n d : Int) (hS : Sums 16 st m) (h : OkH st m) (bn : -9223372036854775808 ≤ n ∧ n ≤ 9223372036854775807) (bd : -9223372036854775808 ≤ d ∧ d ≤ 9223372036854775807) (ha : cntB st m n d = false) (w : World) :
    Calls Try.prog 57 #[.agg #[.int .i64 n, .int .i64 d], .int .i64 m, .func (.func 16) #[] #[]] w fun e w' => e = .returned (.tuple #[.int .i64 0, .bool false]) ∧ Below w.heap.size w w' := by
  have hm20 : m ≤ 20 := by rcases h with h | h <;> omega
  obtain ⟨b1, b2⟩ := hp_bd st m m h (Nat.le_refl _)
  have hcon := fun W => compare_impl (hP st m).1 (hP st m).2 n d b1 b2 bn bd W
  cases hk : amB n d
  · have hko : okk (hP st m).1 (hP st m).2 n d = false := by simp [okk, hk]
    rw [hko] at hcon
    have HS := Lib.hid hS
    have HC := Lib.hid hcon
    clear hS hcon h ha hk hko b1 b2
    go_enter Try.func57, Try.ntmps57
    go_wp2
    go_loopw [8] (fun i wr => i = .int .i64 m ∧ wr = w.alloc (.cells #[.int .i64 n, .int .i64 d] 23)) (fun _ _ => 0)
    case atStart => exact ⟨rfl, rfl⟩
    case round =>
      obtain ⟨rfl, rfl⟩ := hrel
      (go_wp2_with fail; refine (HS.out m _ (Nat.le_refl _)).mono ?_; rintro e w1 ⟨rfl, hb1⟩; have ha1 := hb1; obtain ⟨kc1, kf1, kz1, ky1, kx1, kv1, ku1⟩ := bcell hb1)
      (go_wp2_with fail; refine (HC.out _).mono ?_; rintro e w2 ⟨rfl, hb2⟩; have ha2 := bjoin ha1 hb2 (by (repeat (first | with_reducible exact Below.refl _ _ | with_reducible assumption | with_reducible refine balloc ?_ _ | with_reducible refine bdrew ?_ | with_reducible refine below_drewN ?_ _ | with_reducible refine bset ?_ ?_ _ | with_reducible exact Nat.le_refl _ | with_reducible refine bsize ?_ | (dsimp only; refine Nat.le_trans ?_ (Nat.le_add_right _ _)) | with_reducible refine Nat.le_trans ?_ (Nat.le_add_right _ _) | (with_reducible refine bstep ?_ (by assumption))))); obtain ⟨kc2, kf2, kz2, ky2, kx2, kv2, ku2⟩ := bcell hb2; obtain ⟨jc2, jf2, jz2, jy2, jx2, jv2, ju2⟩ := bcell ha2)
      go_wp2
      go_ret2
      refine ⟨rfl, ?_⟩
      (repeat (first | with_reducible exact Below.refl _ _ | with_reducible assumption | with_reducible refine balloc ?_ _ | with_reducible refine bdrew ?_ | with_reducible refine below_drewN ?_ _ | with_reducible refine bset ?_ ?_ _ | with_reducible exact Nat.le_refl _ | with_reducible refine bsize ?_ | (dsimp only; refine Nat.le_trans ?_ (Nat.le_add_right _ _)) | with_reducible refine Nat.le_trans ?_ (Nat.le_add_right _ _) | (with_reducible refine bstep ?_ (by assumption))))
  · have hg : geH st m n d = false := by simpa [cntB, hk] using ha
    obtain ⟨hko, hcm⟩ := cm_yes st m m n d h (Nat.le_refl _) hk
    have hneg : cmI (hP st m).1 (hP st m).2 n d < 0 := by rw [hcm, sg_lt]; simp [geH] at hg; omega
    rw [hko] at hcon
    have HS := Lib.hid hS
    have HC := Lib.hid hcon
    clear hS hcon h ha hk hko b1 b2 hg hcm
    go_enter Try.func57, Try.ntmps57
    go_wp2
    go_loopw [8] (fun i wr => i = .int .i64 m ∧ wr = w.alloc (.cells #[.int .i64 n, .int .i64 d] 23)) (fun _ _ => 0)
    case atStart => exact ⟨rfl, rfl⟩
    case round =>
      obtain ⟨rfl, rfl⟩ := hrel
      (go_wp2_with fail; refine (HS.out m _ (Nat.le_refl _)).mono ?_; rintro e w1 ⟨rfl, hb1⟩; have ha1 := hb1; obtain ⟨kc1, kf1, kz1, ky1, kx1, kv1, ku1⟩ := bcell hb1)
      (go_wp2_with fail; refine (HC.out _).mono ?_; rintro e w2 ⟨rfl, hb2⟩; have ha2 := bjoin ha1 hb2 (by (repeat (first | with_reducible exact Below.refl _ _ | with_reducible assumption | with_reducible refine balloc ?_ _ | with_reducible refine bdrew ?_ | with_reducible refine below_drewN ?_ _ | with_reducible refine bset ?_ ?_ _ | with_reducible exact Nat.le_refl _ | with_reducible refine bsize ?_ | (dsimp only; refine Nat.le_trans ?_ (Nat.le_add_right _ _)) | with_reducible refine Nat.le_trans ?_ (Nat.le_add_right _ _) | (with_reducible refine bstep ?_ (by assumption))))); obtain ⟨kc2, kf2, kz2, ky2, kx2, kv2, ku2⟩ := bcell hb2; obtain ⟨jc2, jf2, jz2, jy2, jx2, jv2, ju2⟩ := bcell ha2)
      go_wp2
      go_ret2
      refine ⟨rfl, ?_⟩
      (repeat (first | with_reducible exact Below.refl _ _ | with_reducible assumption | with_reducible refine balloc ?_ _ | with_reducible refine bdrew ?_ | with_reducible refine below_drewN ?_ _ | with_reducible refine bset ?_ ?_ _ | with_reducible exact Nat.le_refl _ | with_reducible refine bsize ?_ | (dsimp only; refine Nat.le_trans ?_ (Nat.le_add_right _ _)) | with_reducible refine Nat.le_trans ?_ (Nat.le_add_right _ _) | (with_reducible refine bstep ?_ (by assumption))))

set_option maxHeartbeats 3200000 in
theorem count_impl_yesH (st : Int) (m : Nat) (n d : Int) (hS : Sums 16 st m) (h : OkH st m) (bn : -9223372036854775808 ≤ n ∧ n ≤ 9223372036854775807) (bd : -9223372036854775808 ≤ d ∧ d ≤ 9223372036854775807) (ha : amB n d = true) (hg : geH st m n d = true) (w : World) :
    Calls Try.prog 57 #[.agg #[.int .i64 n, .int .i64 d], .int .i64 m, .func (.func 16) #[] #[]] w fun e w' => e = .returned (.tuple #[.int .i64 (cntDown st n d m), .bool true]) ∧ Below w.heap.size w w' := by
  have hm20 : m ≤ 20 := by rcases h with h | h <;> omega
  have hn0 : 0 ≤ n := (am_of _ _ ha).a
  have hall : ∀ j, j ≤ m → ∀ W, Calls Try.prog 79 #[.agg #[.int .i64 (hP st j).1, .int .i64 (hP st j).2], .agg #[.int .i64 n, .int .i64 d]] W fun e w' => e = .returned (.tuple #[.int .i64 (sgI ((hP st j).1 * d - n * (hP st j).2)), .bool true]) ∧ Below W.heap.size W w' := by
    intro j hj W
    obtain ⟨b1, b2⟩ := hp_bd st m j h hj
    obtain ⟨hko, hcm⟩ := cm_yes st m j n d h hj ha
    have hcon := compare_impl (hP st j).1 (hP st j).2 n d b1 b2 bn bd W
    rw [hko, hcm] at hcon
    exact hcon
  have hge : 0 ≤ (hP st m).1 * d - n * (hP st m).2 := by simpa [geH] using hg
  have HS := Lib.hid hS
  have HA := Lib.hid hall
  have HG := Lib.hid hge
  clear hS hall h hg hge
  go_enter Try.func57, Try.ntmps57
  go_wp2
  go_loopw [8] (fun i wr => ∃ k : Nat, k ≤ m ∧ i = .int .i64 k ∧ Hid (cntDown st n d k = cntDown st n d m) ∧ wr.cell? ⟨w.heap.size, 0, none⟩ = some (.int .i64 n) ∧ wr.cell? ⟨w.heap.size, 1, none⟩ = some (.int .i64 d) ∧ w.heap.size < wr.heap.size ∧ Below w.heap.size w wr) (fun i _ => (intOf i).toNat)
  case atStart =>
    refine ⟨m, Nat.le_refl _, rfl, rfl, by simp [go_sem], by simp [go_sem], by simp, ?_⟩
    (repeat (first | with_reducible exact Below.refl _ _ | with_reducible assumption | with_reducible refine balloc ?_ _ | with_reducible refine bdrew ?_ | with_reducible refine below_drewN ?_ _ | with_reducible refine bset ?_ ?_ _ | with_reducible exact Nat.le_refl _ | with_reducible refine bsize ?_ | (dsimp only; refine Nat.le_trans ?_ (Nat.le_add_right _ _)) | with_reducible refine Nat.le_trans ?_ (Nat.le_add_right _ _) | (with_reducible refine bstep ?_ (by assumption))))
  case round =>
    obtain ⟨k, hk, rfl, hcd, c1, c2, hlt0, hbel⟩ := hrel
    have hcmp := HA.out k hk
    have hsum := fun W => HS.out k W hk
    have HC := Lib.hid hcmp
    have HU := Lib.hid hsum
    clear hcmp hsum
    cases hq : leH st k n d
    · -- the k-th sum is greater: on to the next
      have hkp : 0 < k := by
        rcases Nat.eq_zero_or_pos k with e | e
        · subst e; rw [leH_zero st n d hn0] at hq; cases hq
        · exact e
      have hs : ¬ sgI ((hP st k).1 * d - n * (hP st k).2) ≤ 0 := by rw [sg_le]; simp [leH] at hq; omega
      have hcd2 : Hid (cntDown st n d (k - 1) = cntDown st n d m) := by
        have h0 := hcd.out
        obtain ⟨j, rfl⟩ : ∃ j, k = j + 1 := ⟨k - 1, by omega⟩
        have h1 : cntDown st n d (j + 1) = cntDown st n d j := by
          show (if leH st (j + 1) n d = true then j + 1 else cntDown st n d j) = _
          rw [hq]; simp
        rw [h1] at h0
        exact h0
      clear hq hcd
      have hge1 : k = m → 0 ≤ sgI ((hP st k).1 * d - n * (hP st k).2) := by
        intro e
        have := HG.out
        rw [← e] at this
        unfold sgI; split <;> (try split) <;> omega
      by_cases hkm' : k = m
      · have hge2 := hge1 hkm'
        clear hge1
        subst hkm'
        (go_wp2_with fail; refine (HU.out _).mono ?_; rintro e w1 ⟨rfl, hb1⟩; have ha1 := hb1; obtain ⟨kc1, kf1, kz1, ky1, kx1, kv1, ku1⟩ := bcell hb1)
        (go_wp2_with fail; refine (HC.out _).mono ?_; rintro e w2 ⟨rfl, hb2⟩; have ha2 := bjoin ha1 hb2 (by (repeat (first | with_reducible exact Below.refl _ _ | with_reducible assumption | with_reducible refine balloc ?_ _ | with_reducible refine bdrew ?_ | with_reducible refine below_drewN ?_ _ | with_reducible refine bset ?_ ?_ _ | with_reducible exact Nat.le_refl _ | with_reducible refine bsize ?_ | (dsimp only; refine Nat.le_trans ?_ (Nat.le_add_right _ _)) | with_reducible refine Nat.le_trans ?_ (Nat.le_add_right _ _) | (with_reducible refine bstep ?_ (by assumption))))); obtain ⟨kc2, kf2, kz2, ky2, kx2, kv2, ku2⟩ := bcell hb2; obtain ⟨jc2, jf2, jz2, jy2, jx2, jv2, ju2⟩ := bcell ha2)
        go_wp2
        go_roundw
        case rel =>
          refine ⟨k - 1, by omega, ?_, hcd2, ?_, ?_, ?_, ?_⟩
          · have e : ((k - 1 : Nat) : Int) = (k : Int) - 1 := by omega
            rw [e]
          all_goals first | ((repeat (first | with_reducible exact Below.refl _ _ | with_reducible assumption | with_reducible refine balloc ?_ _ | with_reducible refine bdrew ?_ | with_reducible refine below_drewN ?_ _ | with_reducible refine bset ?_ ?_ _ | with_reducible exact Nat.le_refl _ | with_reducible refine bsize ?_ | (dsimp only; refine Nat.le_trans ?_ (Nat.le_add_right _ _)) | with_reducible refine Nat.le_trans ?_ (Nat.le_add_right _ _) | (with_reducible refine bstep ?_ (by assumption)))); done) | (simp [go_sem, c1, c2, hlt0, kc2, kc1, kz1, kz2, ky1, jc2, jz2]; done)
        case measure => simp [intOf]; omega
      · clear hge1
        have hne : ((k : Int) == (m : Int)) = false := by simp; omega
        (go_wp2_with fail; refine (HU.out _).mono ?_; rintro e w1 ⟨rfl, hb1⟩; have ha1 := hb1; obtain ⟨kc1, kf1, kz1, ky1, kx1, kv1, ku1⟩ := bcell hb1)
        (go_wp2_with fail; refine (HC.out _).mono ?_; rintro e w2 ⟨rfl, hb2⟩; have ha2 := bjoin ha1 hb2 (by (repeat (first | with_reducible exact Below.refl _ _ | with_reducible assumption | with_reducible refine balloc ?_ _ | with_reducible refine bdrew ?_ | with_reducible refine below_drewN ?_ _ | with_reducible refine bset ?_ ?_ _ | with_reducible exact Nat.le_refl _ | with_reducible refine bsize ?_ | (dsimp only; refine Nat.le_trans ?_ (Nat.le_add_right _ _)) | with_reducible refine Nat.le_trans ?_ (Nat.le_add_right _ _) | (with_reducible refine bstep ?_ (by assumption))))); obtain ⟨kc2, kf2, kz2, ky2, kx2, kv2, ku2⟩ := bcell hb2; obtain ⟨jc2, jf2, jz2, jy2, jx2, jv2, ju2⟩ := bcell ha2)
        go_wp2
        go_roundw
        case rel =>
          refine ⟨k - 1, by omega, ?_, hcd2, ?_, ?_, ?_, ?_⟩
          · have e : ((k - 1 : Nat) : Int) = (k : Int) - 1 := by omega
            rw [e]
          all_goals first | ((repeat (first | with_reducible exact Below.refl _ _ | with_reducible assumption | with_reducible refine balloc ?_ _ | with_reducible refine bdrew ?_ | with_reducible refine below_drewN ?_ _ | with_reducible refine bset ?_ ?_ _ | with_reducible exact Nat.le_refl _ | with_reducible refine bsize ?_ | (dsimp only; refine Nat.le_trans ?_ (Nat.le_add_right _ _)) | with_reducible refine Nat.le_trans ?_ (Nat.le_add_right _ _) | (with_reducible refine bstep ?_ (by assumption)))); done) | (simp [go_sem, c1, c2, hlt0, kc2, kc1, kz1, kz2, ky1, jc2, jz2]; done)
        case measure => simp [intOf]; omega
    · have hs : sgI ((hP st k).1 * d - n * (hP st k).2) ≤ 0 := by rw [sg_le]; simp [leH] at hq; omega
      have hfin : Hid (cntDown st n d m = k) := by
        have h0 := hcd.out
        rw [← h0]
        cases k with
        | zero => rfl
        | succ j => show (if leH st (j + 1) n d = true then j + 1 else cntDown st n d j) = _; rw [hq]; simp
      have hkm : k = m → 0 ≤ sgI ((hP st k).1 * d - n * (hP st k).2) := by
        intro e
        have := HG.out
        rw [← e] at this
        unfold sgI; split <;> (try split) <;> omega
      clear hq hcd
      by_cases hkm' : k = m
      · have hge2 := hkm hkm'
        clear hkm
        subst hkm'
        (go_wp2_with fail; refine (HU.out _).mono ?_; rintro e w1 ⟨rfl, hb1⟩; have ha1 := hb1; obtain ⟨kc1, kf1, kz1, ky1, kx1, kv1, ku1⟩ := bcell hb1)
        (go_wp2_with fail; refine (HC.out _).mono ?_; rintro e w2 ⟨rfl, hb2⟩; have ha2 := bjoin ha1 hb2 (by (repeat (first | with_reducible exact Below.refl _ _ | with_reducible assumption | with_reducible refine balloc ?_ _ | with_reducible refine bdrew ?_ | with_reducible refine below_drewN ?_ _ | with_reducible refine bset ?_ ?_ _ | with_reducible exact Nat.le_refl _ | with_reducible refine bsize ?_ | (dsimp only; refine Nat.le_trans ?_ (Nat.le_add_right _ _)) | with_reducible refine Nat.le_trans ?_ (Nat.le_add_right _ _) | (with_reducible refine bstep ?_ (by assumption))))); obtain ⟨kc2, kf2, kz2, ky2, kx2, kv2, ku2⟩ := bcell hb2; obtain ⟨jc2, jf2, jz2, jy2, jx2, jv2, ju2⟩ := bcell ha2)
        go_wp2
        go_ret2
        refine ⟨by rw [hfin.out]; rfl, ?_⟩
        (repeat (first | with_reducible exact Below.refl _ _ | with_reducible assumption | with_reducible refine balloc ?_ _ | with_reducible refine bdrew ?_ | with_reducible refine below_drewN ?_ _ | with_reducible refine bset ?_ ?_ _ | with_reducible exact Nat.le_refl _ | with_reducible refine bsize ?_ | (dsimp only; refine Nat.le_trans ?_ (Nat.le_add_right _ _)) | with_reducible refine Nat.le_trans ?_ (Nat.le_add_right _ _) | (with_reducible refine bstep ?_ (by assumption))))
      · clear hkm
        have hne : ((k : Int) == (m : Int)) = false := by simp; omega
        (go_wp2_with fail; refine (HU.out _).mono ?_; rintro e w1 ⟨rfl, hb1⟩; have ha1 := hb1; obtain ⟨kc1, kf1, kz1, ky1, kx1, kv1, ku1⟩ := bcell hb1)
        (go_wp2_with fail; refine (HC.out _).mono ?_; rintro e w2 ⟨rfl, hb2⟩; have ha2 := bjoin ha1 hb2 (by (repeat (first | with_reducible exact Below.refl _ _ | with_reducible assumption | with_reducible refine balloc ?_ _ | with_reducible refine bdrew ?_ | with_reducible refine below_drewN ?_ _ | with_reducible refine bset ?_ ?_ _ | with_reducible exact Nat.le_refl _ | with_reducible refine bsize ?_ | (dsimp only; refine Nat.le_trans ?_ (Nat.le_add_right _ _)) | with_reducible refine Nat.le_trans ?_ (Nat.le_add_right _ _) | (with_reducible refine bstep ?_ (by assumption))))); obtain ⟨kc2, kf2, kz2, ky2, kx2, kv2, ku2⟩ := bcell hb2; obtain ⟨jc2, jf2, jz2, jy2, jx2, jv2, ju2⟩ := bcell ha2)
        go_wp2
        go_ret2
        refine ⟨by rw [hfin.out]; rfl, ?_⟩
        (repeat (first | with_reducible exact Below.refl _ _ | with_reducible assumption | with_reducible refine balloc ?_ _ | with_reducible refine bdrew ?_ | with_reducible refine below_drewN ?_ _ | with_reducible refine bset ?_ ?_ _ | with_reducible exact Nat.le_refl _ | with_reducible refine bsize ?_ | (dsimp only; refine Nat.le_trans ?_ (Nat.le_add_right _ _)) | with_reducible refine Nat.le_trans ?_ (Nat.le_add_right _ _) | (with_reducible refine bstep ?_ (by assumption))))
end Go.Proofs.Ytjmmlknbdmngeaa
