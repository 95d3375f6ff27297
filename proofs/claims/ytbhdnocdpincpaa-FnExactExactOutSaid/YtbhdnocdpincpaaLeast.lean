/- The contract of the program's countWithin at journey.reach, and of journey.leastFuel. -/
import Derived.Test.YtbhdnocdpincpaaJeep2
import Derived.Test.YtbhdnocdpincpaaCmp
import Derived.IntWalk
namespace Go.Proofs.Ytbhdnocdpincpaa
open Go.RowKit
set_option maxRecDepth 100000
set_option linter.unusedVariables false
set_option linter.unusedSimpArgs false

theorem sg_le (x : Int) : (sgI x ≤ 0) ↔ x ≤ 0 := by unfold sgI; split <;> (try split) <;> omega
theorem sg_lt (x : Int) : (sgI x < 0) ↔ x < 0 := by unfold sgI; split <;> (try split) <;> omega
theorem rp_i64 (st : Int) (j : Nat) (h : OkJ st) (hj : j < 12) : (-9223372036854775808 ≤ (rP st j).1 ∧ (rP st j).1 ≤ 9223372036854775807) ∧ -9223372036854775808 ≤ (rP st j).2 ∧ (rP st j).2 ≤ 9223372036854775807 := by
  obtain ⟨a, b, c, d, _⟩ := rp_bd st j h hj
  omega
theorem cm_yesR (st : Int) (j : Nat) (n d : Int) (h : OkJ st) (hj : j < 12) (ha : amB n d = true) : okk (rP st j).1 (rP st j).2 n d = true ∧ cmI (rP st j).1 (rP st j).2 n d = sgI ((rP st j).1 * d - n * (rP st j).2) := by
  have hk : okk (rP st j).1 (rP st j).2 n d = true := by simp [okk, (rp_bd st j h hj).am, ha]
  exact ⟨hk, by unfold cmI; rw [if_pos hk]⟩

set_option maxHeartbeats 3200000 in
theorem count_impl_noR (st : Int) (m : Nat) (n d : Int) (h : OkJ st) (hm : m < 12) (bn : -9223372036854775808 ≤ n ∧ n ≤ 9223372036854775807) (bd : -9223372036854775808 ≤ d ∧ d ≤ 9223372036854775807) (ha : crB st m n d = false) (w : World) :
    Calls Try.prog 57 #[.agg #[.int .i64 n, .int .i64 d], .int .i64 m, .func (.func 58) #[.int .i64 st] #[]] w fun e w' => e = .returned (.tuple #[.int .i64 0, .bool false]) ∧ Below w.heap.size w w' := by
  have hm20 : m ≤ 20 := by omega
  have hS := fun (j : Nat) (W : World) (hj : j ≤ m) => reach_impl st j h (by omega) W
  obtain ⟨b1, b2⟩ := rp_i64 st m h hm
  have hcon := fun W => compare_impl (rP st m).1 (rP st m).2 n d b1 b2 bn bd W
  cases hk : amB n d
  · have hko : okk (rP st m).1 (rP st m).2 n d = false := by simp [okk, hk]
    rw [hko] at hcon
    have HS := Lib.hid hS
    have HC := Lib.hid hcon
    clear hS hcon h ha hk hko b1 b2
    go_enter Try.func57, Try.ntmps57
    go_wp2
    go_loopw [8] (fun i wr => i = .int .i64 m ∧ wr = w.alloc (.cells #[.int .i64 n, .int .i64 d] 31)) (fun _ _ => 0)
    case atStart => exact ⟨rfl, rfl⟩
    case round =>
      obtain ⟨rfl, rfl⟩ := hrel
      (go_wp2_with fail; refine (HS.out m _ (Nat.le_refl _)).mono ?_; rintro e w1 ⟨rfl, hb1⟩; have ha1 := hb1; obtain ⟨kc1, kf1, kz1, ky1, kx1, kv1, ku1⟩ := bcell hb1)
      (go_wp2_with fail; refine (HC.out _).mono ?_; rintro e w2 ⟨rfl, hb2⟩; have ha2 := bjoin ha1 hb2 (by (repeat (first | with_reducible exact Below.refl _ _ | with_reducible assumption | with_reducible refine balloc ?_ _ | with_reducible refine bdrew ?_ | with_reducible refine below_drewN ?_ _ | with_reducible refine bset ?_ ?_ _ | with_reducible exact Nat.le_refl _ | with_reducible refine bsize ?_ | (dsimp only; refine Nat.le_trans ?_ (Nat.le_add_right _ _)) | with_reducible refine Nat.le_trans ?_ (Nat.le_add_right _ _) | (with_reducible refine bstep ?_ (by assumption))))); obtain ⟨kc2, kf2, kz2, ky2, kx2, kv2, ku2⟩ := bcell hb2; obtain ⟨jc2, jf2, jz2, jy2, jx2, jv2, ju2⟩ := bcell ha2)
      go_wp2
      go_ret2
      refine ⟨rfl, ?_⟩
      (repeat (first | with_reducible exact Below.refl _ _ | with_reducible assumption | with_reducible refine balloc ?_ _ | with_reducible refine bdrew ?_ | with_reducible refine below_drewN ?_ _ | with_reducible refine bset ?_ ?_ _ | with_reducible exact Nat.le_refl _ | with_reducible refine bsize ?_ | (dsimp only; refine Nat.le_trans ?_ (Nat.le_add_right _ _)) | with_reducible refine Nat.le_trans ?_ (Nat.le_add_right _ _) | (with_reducible refine bstep ?_ (by assumption))))
  · have hg : geR st m n d = false := by simpa [crB, hk] using ha
    obtain ⟨hko, hcm⟩ := cm_yesR st m n d h hm hk
    have hneg : cmI (rP st m).1 (rP st m).2 n d < 0 := by rw [hcm, sg_lt]; simp [geR] at hg; omega
    rw [hko] at hcon
    have HS := Lib.hid hS
    have HC := Lib.hid hcon
    clear hS hcon h ha hk hko b1 b2 hg hcm
    go_enter Try.func57, Try.ntmps57
    go_wp2
    go_loopw [8] (fun i wr => i = .int .i64 m ∧ wr = w.alloc (.cells #[.int .i64 n, .int .i64 d] 31)) (fun _ _ => 0)
    case atStart => exact ⟨rfl, rfl⟩
    case round =>
      obtain ⟨rfl, rfl⟩ := hrel
      (go_wp2_with fail; refine (HS.out m _ (Nat.le_refl _)).mono ?_; rintro e w1 ⟨rfl, hb1⟩; have ha1 := hb1; obtain ⟨kc1, kf1, kz1, ky1, kx1, kv1, ku1⟩ := bcell hb1)
      (go_wp2_with fail; refine (HC.out _).mono ?_; rintro e w2 ⟨rfl, hb2⟩; have ha2 := bjoin ha1 hb2 (by (repeat (first | with_reducible exact Below.refl _ _ | with_reducible assumption | with_reducible refine balloc ?_ _ | with_reducible refine bdrew ?_ | with_reducible refine below_drewN ?_ _ | with_reducible refine bset ?_ ?_ _ | with_reducible exact Nat.le_refl _ | with_reducible refine bsize ?_ | (dsimp only; refine Nat.le_trans ?_ (Nat.le_add_right _ _)) | with_reducible refine Nat.le_trans ?_ (Nat.le_add_right _ _) | (with_reducible refine bstep ?_ (by assumption))))); obtain ⟨kc2, kf2, kz2, ky2, kx2, kv2, ku2⟩ := bcell hb2; obtain ⟨jc2, jf2, jz2, jy2, jx2, jv2, ju2⟩ := bcell ha2)
      go_wp2
      go_ret2
      refine ⟨rfl, ?_⟩
      (repeat (first | with_reducible exact Below.refl _ _ | with_reducible assumption | with_reducible refine balloc ?_ _ | with_reducible refine bdrew ?_ | with_reducible refine below_drewN ?_ _ | with_reducible refine bset ?_ ?_ _ | with_reducible exact Nat.le_refl _ | with_reducible refine bsize ?_ | (dsimp only; refine Nat.le_trans ?_ (Nat.le_add_right _ _)) | with_reducible refine Nat.le_trans ?_ (Nat.le_add_right _ _) | (with_reducible refine bstep ?_ (by assumption))))

set_option maxHeartbeats 3200000 in
theorem count_impl_yesR (st : Int) (m : Nat) (n d : Int) (h : OkJ st) (hm : m < 12) (bn : -9223372036854775808 ≤ n ∧ n ≤ 9223372036854775807) (bd : -9223372036854775808 ≤ d ∧ d ≤ 9223372036854775807) (ha : amB n d = true) (hg : geR st m n d = true) (w : World) :
    Calls Try.prog 57 #[.agg #[.int .i64 n, .int .i64 d], .int .i64 m, .func (.func 58) #[.int .i64 st] #[]] w fun e w' => e = .returned (.tuple #[.int .i64 (cntR st n d m), .bool true]) ∧ Below w.heap.size w w' := by
  have hm20 : m ≤ 20 := by omega
  have hS := fun (j : Nat) (W : World) (hj : j ≤ m) => reach_impl st j h (by omega) W
  have hn0 : 0 ≤ n := (am_of _ _ ha).a
  have hall : ∀ j, j ≤ m → ∀ W, Calls Try.prog 64 #[.agg #[.int .i64 (rP st j).1, .int .i64 (rP st j).2], .agg #[.int .i64 n, .int .i64 d]] W fun e w' => e = .returned (.tuple #[.int .i64 (sgI ((rP st j).1 * d - n * (rP st j).2)), .bool true]) ∧ Below W.heap.size W w' := by
    intro j hj W
    obtain ⟨b1, b2⟩ := rp_i64 st j h (by omega)
    obtain ⟨hko, hcm⟩ := cm_yesR st j n d h (by omega) ha
    have hcon := compare_impl (rP st j).1 (rP st j).2 n d b1 b2 bn bd W
    rw [hko, hcm] at hcon
    exact hcon
  have hge : 0 ≤ (rP st m).1 * d - n * (rP st m).2 := by simpa [geR] using hg
  have HS := Lib.hid hS
  have HA := Lib.hid hall
  have HG := Lib.hid hge
  clear hS hall h hg hge
  go_enter Try.func57, Try.ntmps57
  go_wp2
  go_loopw [8] (fun i wr => ∃ k : Nat, k ≤ m ∧ i = .int .i64 k ∧ Hid (cntR st n d k = cntR st n d m) ∧ wr.cell? ⟨w.heap.size, 0, none⟩ = some (.int .i64 n) ∧ wr.cell? ⟨w.heap.size, 1, none⟩ = some (.int .i64 d) ∧ w.heap.size < wr.heap.size ∧ Below w.heap.size w wr) (fun i _ => (intOf i).toNat)
  case atStart =>
    refine ⟨m, Nat.le_refl _, rfl, rfl, by simp [go_sem], by simp [go_sem], by simp, ?_⟩
    (repeat (first | with_reducible exact Below.refl _ _ | with_reducible assumption | with_reducible refine balloc ?_ _ | with_reducible refine bdrew ?_ | with_reducible refine below_drewN ?_ _ | with_reducible refine bset ?_ ?_ _ | with_reducible exact Nat.le_refl _ | with_reducible refine bsize ?_ | (dsimp only; refine Nat.le_trans ?_ (Nat.le_add_right _ _)) | with_reducible refine Nat.le_trans ?_ (Nat.le_add_right _ _) | (with_reducible refine bstep ?_ (by assumption))))
  case round =>
    obtain ⟨k, hk, rfl, hcd, c1, c2, hlt0, hbel⟩ := hrel
    have hcmp := HA.out k hk
    have hsum := fun W => HS.out k W hk
    have HC := Lib.hid hcmp
    have HU := Lib.hid hsum
    clear hcmp hsum
    cases hq : leR st k n d
    · -- the k-th sum is greater: on to the next
      have hkp : 0 < k := by
        rcases Nat.eq_zero_or_pos k with e | e
        · subst e; rw [leR_zero st n d hn0] at hq; cases hq
        · exact e
      have hs : ¬ sgI ((rP st k).1 * d - n * (rP st k).2) ≤ 0 := by rw [sg_le]; simp [leR] at hq; omega
      have hcd2 : Hid (cntR st n d (k - 1) = cntR st n d m) := by
        have h0 := hcd.out
        obtain ⟨j, rfl⟩ : ∃ j, k = j + 1 := ⟨k - 1, by omega⟩
        have h1 : cntR st n d (j + 1) = cntR st n d j := by
          show (if leR st (j + 1) n d = true then j + 1 else cntR st n d j) = _
          rw [hq]; simp
        rw [h1] at h0
        exact h0
      clear hq hcd
      have hge1 : k = m → 0 ≤ sgI ((rP st k).1 * d - n * (rP st k).2) := by
        intro e
        have := HG.out
        rw [← e] at this
        unfold sgI; split <;> (try split) <;> omega
      by_cases hkm' : k = m
      · have hge2 := hge1 hkm'
        clear hge1
        subst hkm'
        (go_wp2_with fail; refine (HU.out _).mono ?_; rintro e w1 ⟨rfl, hb1⟩; have ha1 := hb1; obtain ⟨kc1, kf1, kz1, ky1, kx1, kv1, ku1⟩ := bcell hb1)
        (go_wp2_with fail; refine (HC.out _).mono ?_; rintro e w2 ⟨rfl, hb2⟩; have ha2 := bjoin ha1 hb2 (by (repeat (first | with_reducible exact Below.refl _ _ | with_reducible assumption | with_reducible refine balloc ?_ _ | with_reducible refine bdrew ?_ | with_reducible refine below_drewN ?_ _ | with_reducible refine bset ?_ ?_ _ | with_reducible exact Nat.le_refl _ | with_reducible refine bsize ?_ | (dsimp only; refine Nat.le_trans ?_ (Nat.le_add_right _ _)) | with_reducible refine Nat.le_trans ?_ (Nat.le_add_right _ _) | (with_reducible refine bstep ?_ (by assumption))))); obtain ⟨kc2, kf2, kz2, ky2, kx2, kv2, ku2⟩ := bcell hb2; obtain ⟨jc2, jf2, jz2, jy2, jx2, jv2, ju2⟩ := bcell ha2)
        go_wp2
        go_roundw
        case rel =>
          refine ⟨k - 1, by omega, ?_, hcd2, ?_, ?_, ?_, ?_⟩
          · have e : ((k - 1 : Nat) : Int) = (k : Int) - 1 := by omega
            rw [e]
          all_goals first | ((repeat (first | with_reducible exact Below.refl _ _ | with_reducible assumption | with_reducible refine balloc ?_ _ | with_reducible refine bdrew ?_ | with_reducible refine below_drewN ?_ _ | with_reducible refine bset ?_ ?_ _ | with_reducible exact Nat.le_refl _ | with_reducible refine bsize ?_ | (dsimp only; refine Nat.le_trans ?_ (Nat.le_add_right _ _)) | with_reducible refine Nat.le_trans ?_ (Nat.le_add_right _ _) | (with_reducible refine bstep ?_ (by assumption)))); done) | (simp [go_sem, c1, c2, hlt0, kc2, kc1, kz1, kz2, ky1, jc2, jz2]; done)
        case measure => simp [intOf]; omega
      · clear hge1
        have hne : ((k : Int) == (m : Int)) = false := by simp; omega
        (go_wp2_with fail; refine (HU.out _).mono ?_; rintro e w1 ⟨rfl, hb1⟩; have ha1 := hb1; obtain ⟨kc1, kf1, kz1, ky1, kx1, kv1, ku1⟩ := bcell hb1)
        (go_wp2_with fail; refine (HC.out _).mono ?_; rintro e w2 ⟨rfl, hb2⟩; have ha2 := bjoin ha1 hb2 (by (repeat (first | with_reducible exact Below.refl _ _ | with_reducible assumption | with_reducible refine balloc ?_ _ | with_reducible refine bdrew ?_ | with_reducible refine below_drewN ?_ _ | with_reducible refine bset ?_ ?_ _ | with_reducible exact Nat.le_refl _ | with_reducible refine bsize ?_ | (dsimp only; refine Nat.le_trans ?_ (Nat.le_add_right _ _)) | with_reducible refine Nat.le_trans ?_ (Nat.le_add_right _ _) | (with_reducible refine bstep ?_ (by assumption))))); obtain ⟨kc2, kf2, kz2, ky2, kx2, kv2, ku2⟩ := bcell hb2; obtain ⟨jc2, jf2, jz2, jy2, jx2, jv2, ju2⟩ := bcell ha2)
        go_wp2
        go_roundw
        case rel =>
          refine ⟨k - 1, by omega, ?_, hcd2, ?_, ?_, ?_, ?_⟩
          · have e : ((k - 1 : Nat) : Int) = (k : Int) - 1 := by omega
            rw [e]
          all_goals first | ((repeat (first | with_reducible exact Below.refl _ _ | with_reducible assumption | with_reducible refine balloc ?_ _ | with_reducible refine bdrew ?_ | with_reducible refine below_drewN ?_ _ | with_reducible refine bset ?_ ?_ _ | with_reducible exact Nat.le_refl _ | with_reducible refine bsize ?_ | (dsimp only; refine Nat.le_trans ?_ (Nat.le_add_right _ _)) | with_reducible refine Nat.le_trans ?_ (Nat.le_add_right _ _) | (with_reducible refine bstep ?_ (by assumption)))); done) | (simp [go_sem, c1, c2, hlt0, kc2, kc1, kz1, kz2, ky1, jc2, jz2]; done)
        case measure => simp [intOf]; omega
    · have hs : sgI ((rP st k).1 * d - n * (rP st k).2) ≤ 0 := by rw [sg_le]; simp [leR] at hq; omega
      have hfin : Hid (cntR st n d m = k) := by
        have h0 := hcd.out
        rw [← h0]
        cases k with
        | zero => rfl
        | succ j => show (if leR st (j + 1) n d = true then j + 1 else cntR st n d j) = _; rw [hq]; simp
      have hkm : k = m → 0 ≤ sgI ((rP st k).1 * d - n * (rP st k).2) := by
        intro e
        have := HG.out
        rw [← e] at this
        unfold sgI; split <;> (try split) <;> omega
      clear hq hcd
      by_cases hkm' : k = m
      · have hge2 := hkm hkm'
        clear hkm
        subst hkm'
        (go_wp2_with fail; refine (HU.out _).mono ?_; rintro e w1 ⟨rfl, hb1⟩; have ha1 := hb1; obtain ⟨kc1, kf1, kz1, ky1, kx1, kv1, ku1⟩ := bcell hb1)
        (go_wp2_with fail; refine (HC.out _).mono ?_; rintro e w2 ⟨rfl, hb2⟩; have ha2 := bjoin ha1 hb2 (by (repeat (first | with_reducible exact Below.refl _ _ | with_reducible assumption | with_reducible refine balloc ?_ _ | with_reducible refine bdrew ?_ | with_reducible refine below_drewN ?_ _ | with_reducible refine bset ?_ ?_ _ | with_reducible exact Nat.le_refl _ | with_reducible refine bsize ?_ | (dsimp only; refine Nat.le_trans ?_ (Nat.le_add_right _ _)) | with_reducible refine Nat.le_trans ?_ (Nat.le_add_right _ _) | (with_reducible refine bstep ?_ (by assumption))))); obtain ⟨kc2, kf2, kz2, ky2, kx2, kv2, ku2⟩ := bcell hb2; obtain ⟨jc2, jf2, jz2, jy2, jx2, jv2, ju2⟩ := bcell ha2)
        go_wp2
        go_ret2
        refine ⟨by rw [hfin.out]; rfl, ?_⟩
        (repeat (first | with_reducible exact Below.refl _ _ | with_reducible assumption | with_reducible refine balloc ?_ _ | with_reducible refine bdrew ?_ | with_reducible refine below_drewN ?_ _ | with_reducible refine bset ?_ ?_ _ | with_reducible exact Nat.le_refl _ | with_reducible refine bsize ?_ | (dsimp only; refine Nat.le_trans ?_ (Nat.le_add_right _ _)) | with_reducible refine Nat.le_trans ?_ (Nat.le_add_right _ _) | (with_reducible refine bstep ?_ (by assumption))))
      · clear hkm
        have hne : ((k : Int) == (m : Int)) = false := by simp; omega
        (go_wp2_with fail; refine (HU.out _).mono ?_; rintro e w1 ⟨rfl, hb1⟩; have ha1 := hb1; obtain ⟨kc1, kf1, kz1, ky1, kx1, kv1, ku1⟩ := bcell hb1)
        (go_wp2_with fail; refine (HC.out _).mono ?_; rintro e w2 ⟨rfl, hb2⟩; have ha2 := bjoin ha1 hb2 (by (repeat (first | with_reducible exact Below.refl _ _ | with_reducible assumption | with_reducible refine balloc ?_ _ | with_reducible refine bdrew ?_ | with_reducible refine below_drewN ?_ _ | with_reducible refine bset ?_ ?_ _ | with_reducible exact Nat.le_refl _ | with_reducible refine bsize ?_ | (dsimp only; refine Nat.le_trans ?_ (Nat.le_add_right _ _)) | with_reducible refine Nat.le_trans ?_ (Nat.le_add_right _ _) | (with_reducible refine bstep ?_ (by assumption))))); obtain ⟨kc2, kf2, kz2, ky2, kx2, kv2, ku2⟩ := bcell hb2; obtain ⟨jc2, jf2, jz2, jy2, jx2, jv2, ju2⟩ := bcell ha2)
        go_wp2
        go_ret2
        refine ⟨by rw [hfin.out]; rfl, ?_⟩
        (repeat (first | with_reducible exact Below.refl _ _ | with_reducible assumption | with_reducible refine balloc ?_ _ | with_reducible refine bdrew ?_ | with_reducible refine below_drewN ?_ _ | with_reducible refine bset ?_ ?_ _ | with_reducible exact Nat.le_refl _ | with_reducible refine bsize ?_ | (dsimp only; refine Nat.le_trans ?_ (Nat.le_add_right _ _)) | with_reducible refine Nat.le_trans ?_ (Nat.le_add_right _ _) | (with_reducible refine bstep ?_ (by assumption))))

/-- The least fuel: is there an answer, and which. -/
def lfB (j n d : Int) : Bool := crB j 10 n d && lowB (lfN j (cntR j n d 10) n d) (lfD j (cntR j n d 10) d)
def lfX (j n d : Int) : Int := if lfB j n d = true then lowN (lfN j (cntR j n d 10) n d) (lfD j (cntR j n d 10) d) else 0
def lfY (j n d : Int) : Int := if lfB j n d = true then lowD (lfN j (cntR j n d 10) n d) (lfD j (cntR j n d 10) d) else 0
theorem lf_no (j n d : Int) (h : crB j 10 n d = false) : lfB j n d = false ∧ lfX j n d = 0 ∧ lfY j n d = 0 := by
  have e : lfB j n d = false := by unfold lfB; rw [h]; rfl
  exact ⟨e, by simp [lfX, e], by simp [lfY, e]⟩
theorem lf_yes (j n d : Int) (h : crB j 10 n d = true) : lfB j n d = lowB (lfN j (cntR j n d 10) n d) (lfD j (cntR j n d 10) d) ∧ lfX j n d = lowN (lfN j (cntR j n d 10) n d) (lfD j (cntR j n d 10) d) ∧ lfY j n d = lowD (lfN j (cntR j n d 10) n d) (lfD j (cntR j n d 10) d) := by
  have e : lfB j n d = lowB (lfN j (cntR j n d 10) n d) (lfD j (cntR j n d 10) d) := by unfold lfB; rw [h]; rfl
  refine ⟨e, ?_, ?_⟩
  · unfold lfX; rw [e]; split
    · rfl
    · rename_i hb; exact (lowN_no _ _ (by simpa using hb)).symm
  · unfold lfY; rw [e]; split
    · rfl
    · rename_i hb; exact (lowD_no _ _ (by simpa using hb)).symm
theorem cntR_le (j n d : Int) : ∀ m, cntR j n d m ≤ m := by
  intro m
  induction m with
  | zero => exact Nat.le_refl _
  | succ m ih => unfold cntR; split <;> omega
theorem cntR_ge (j n d : Int) (hn : 0 ≤ n) : ∀ m, leR j (cntR j n d m) n d = true := by
  intro m
  induction m with
  | zero => exact leR_zero j n d hn
  | succ m ih =>
    unfold cntR
    split
    · assumption
    · exact ih
structure LfBd (j : Int) (k : Nat) (x y : Int) : Prop where
  a : 1 ≤ y * (rP j k).2
  b : y * (rP j k).2 ≤ 14549535000000000
  c : 0 ≤ (k : Int) * (y * (rP j k).2)
  d : (k : Int) * (y * (rP j k).2) ≤ 160044885000000000
  e : 0 ≤ x * (rP j k).2
  f : x * (rP j k).2 ≤ 14549535000000000
  g : 0 ≤ (rP j k).1 * y
  h : (rP j k).1 * y ≤ 31730711000000000
  i : 0 ≤ x * (rP j k).2 - (rP j k).1 * y
  l : 0 ≤ (x * (rP j k).2 - (rP j k).1 * y) * drv j k
  m : (x * (rP j k).2 - (rP j k).1 * y) * drv j k ≤ 349188840000000000
theorem lf_bd (j : Int) (k : Nat) (n d : Int) (h : OkJ j) (hk : k < 12) (ha : amB n d = true) (hle : leR j k n d = true) : LfBd j k n d := by
  obtain ⟨p1, p2, p3, p4, _⟩ := rp_bd j k h hk
  obtain ⟨v0, v1⟩ := drv_bd j k h hk
  obtain ⟨a1, a2, a3, a4⟩ := am_of n d ha
  have m1 := mul_le d (rP j k).2 1000000000 14549535 (by omega) a4 (by omega) p4
  have m0 := Int.mul_pos (show 0 < d by omega) (show 0 < (rP j k).2 by omega)
  have m2 := mul_le (k : Int) (d * (rP j k).2) 11 14549535000000000 (by omega) (by omega) (by omega) (by omega)
  have m3 := mul_le n (rP j k).2 1000000000 14549535 a1 a2 (by omega) p4
  have m4 := mul_le (rP j k).1 d 31730711 1000000000 p1 p2 (by omega) a4
  have hi : 0 ≤ n * (rP j k).2 - (rP j k).1 * d := by simp [leR] at hle; omega
  have m5 := mul_le (n * (rP j k).2 - (rP j k).1 * d) (drv j k) 14549535000000000 24 hi (by omega) (by omega) v1
  exact ⟨by omega, by omega, m2.1, by omega, m3.1, by omega, m4.1, by omega, hi, m5.1, by omega⟩

set_option maxHeartbeats 1600000 in
theorem least_impl (j n d : Int) (h : OkJ j) (bn : -9223372036854775808 ≤ n ∧ n ≤ 9223372036854775807) (bd : -9223372036854775808 ≤ d ∧ d ≤ 9223372036854775807) (w : World) :
    Calls Try.prog 47 #[.int .i64 j, .agg #[.int .i64 n, .int .i64 d]] w fun e w' => e = .returned (.tuple #[.agg #[.int .i64 (lfX j n d), .int .i64 (lfY j n d)], .bool (lfB j n d)]) ∧ Below w.heap.size w w' := by
  cases hc : crB j 10 n d
  · obtain ⟨e1, e2, e3⟩ := lf_no j n d hc
    rw [e1, e2, e3]; clear e1 e2 e3
    have hcon := fun W => count_impl_noR j 10 n d h (by omega) bn bd hc W
    have HC := Lib.hid hcon
    clear hcon hc
    go_enter Try.func47, Try.ntmps47
    (go_wp2_with fail; refine (HC.out _).mono ?_; rintro e w1 ⟨rfl, hb1⟩; have ha1 := hb1; obtain ⟨kc1, kf1, kz1, ky1, kx1, kv1, ku1⟩ := bcell hb1)
    go_wp2
    refine bodyPost_ret (v := .tuple #[.agg #[.int .i64 0, .int .i64 0], .bool false]) (by simp only [results, Try.results47]; go_simp) rfl ⟨rfl, ?_⟩
    (repeat (first | with_reducible exact Below.refl _ _ | with_reducible assumption | with_reducible refine balloc ?_ _ | with_reducible refine bdrew ?_ | with_reducible refine below_drewN ?_ _ | with_reducible refine bset ?_ ?_ _ | with_reducible exact Nat.le_refl _ | with_reducible refine bsize ?_ | (dsimp only; refine Nat.le_trans ?_ (Nat.le_add_right _ _)) | with_reducible refine Nat.le_trans ?_ (Nat.le_add_right _ _) | (with_reducible refine bstep ?_ (by assumption))))
  · obtain ⟨e1, e2, e3⟩ := lf_yes j n d hc
    rw [e1, e2, e3]; clear e1 e2 e3
    have hab := hc
    unfold crB at hab
    rw [Bool.and_eq_true] at hab
    obtain ⟨ha, hg⟩ := hab
    obtain ⟨a1, a2, a3, a4⟩ := am_of n d ha
    have hcon := fun W => count_impl_yesR j 10 n d h (by omega) bn bd ha hg W
    have hk := cntR_le j n d 10
    have hle := cntR_ge j n d a1 10
    generalize cntR j n d 10 = k at *
    obtain ⟨b1, b2, b3, b4, b5, b6, b7, b8, b9, b10, b11⟩ := lf_bd j k n d h (by omega) ha hle
    have hr := fun W => reach_impl j k h (by omega) W
    have hd := fun W => drives_impl j k h (by omega) W
    unfold lfN lfD
    generalize (rP j k).1 = RN at *
    generalize (rP j k).2 = RD at *
    generalize drv j k = v at *
    have HC := Lib.hid hcon
    have HR := Lib.hid hr
    have HD := Lib.hid hd
    clear hcon hr hd hc ha hg hle
    go_enter Try.func47, Try.ntmps47
    (go_wp2_with fail; refine (HC.out _).mono ?_; rintro e w1 ⟨rfl, hb1⟩; have ha1 := hb1; obtain ⟨kc1, kf1, kz1, ky1, kx1, kv1, ku1⟩ := bcell hb1)
    (go_wp2_with fail; refine (HR.out _).mono ?_; rintro e w2 ⟨rfl, hb2⟩; have ha2 := bjoin ha1 hb2 (by (repeat (first | with_reducible exact Below.refl _ _ | with_reducible assumption | with_reducible refine balloc ?_ _ | with_reducible refine bdrew ?_ | with_reducible refine below_drewN ?_ _ | with_reducible refine bset ?_ ?_ _ | with_reducible exact Nat.le_refl _ | with_reducible refine bsize ?_ | (dsimp only; refine Nat.le_trans ?_ (Nat.le_add_right _ _)) | with_reducible refine Nat.le_trans ?_ (Nat.le_add_right _ _) | (with_reducible refine bstep ?_ (by assumption))))); obtain ⟨kc2, kf2, kz2, ky2, kx2, kv2, ku2⟩ := bcell hb2; obtain ⟨jc2, jf2, jz2, jy2, jx2, jv2, ju2⟩ := bcell ha2)
    go_wp2_with fail
    refine (HD.out _).mono ?_
    rintro e w3 ⟨rfl, rfl⟩
    (go_wp2_with fail; refine (low_impl _ _ (by omega) (by omega) _).mono ?_; rintro e w4 ⟨rfl, hb4⟩; have ha4 := bjoin ha2 hb4 (by (repeat (first | with_reducible exact Below.refl _ _ | with_reducible assumption | with_reducible refine balloc ?_ _ | with_reducible refine bdrew ?_ | with_reducible refine below_drewN ?_ _ | with_reducible refine bset ?_ ?_ _ | with_reducible exact Nat.le_refl _ | with_reducible refine bsize ?_ | (dsimp only; refine Nat.le_trans ?_ (Nat.le_add_right _ _)) | with_reducible refine Nat.le_trans ?_ (Nat.le_add_right _ _) | (with_reducible refine bstep ?_ (by assumption))))); obtain ⟨kc4, kf4, kz4, ky4, kx4, kv4, ku4⟩ := bcell hb4; obtain ⟨jc4, jf4, jz4, jy4, jx4, jv4, ju4⟩ := bcell ha4)
    go_wp2
    refine bodyPost_ret (v := .tuple #[.agg #[.int .i64 (lowN ((k : Int) * (d * RD) + (n * RD - RN * d) * v) (d * RD)), .int .i64 (lowD ((k : Int) * (d * RD) + (n * RD - RN * d) * v) (d * RD))], .bool (lowB ((k : Int) * (d * RD) + (n * RD - RN * d) * v) (d * RD))]) (by simp only [results, Try.results47]; go_simp) rfl ⟨rfl, ?_⟩
    (repeat (first | with_reducible exact Below.refl _ _ | with_reducible assumption | with_reducible refine balloc ?_ _ | with_reducible refine bdrew ?_ | with_reducible refine below_drewN ?_ _ | with_reducible refine bset ?_ ?_ _ | with_reducible exact Nat.le_refl _ | with_reducible refine bsize ?_ | (dsimp only; refine Nat.le_trans ?_ (Nat.le_add_right _ _)) | with_reducible refine Nat.le_trans ?_ (Nat.le_add_right _ _) | (with_reducible refine bstep ?_ (by assumption))))
end Go.Proofs.Ytbhdnocdpincpaa
