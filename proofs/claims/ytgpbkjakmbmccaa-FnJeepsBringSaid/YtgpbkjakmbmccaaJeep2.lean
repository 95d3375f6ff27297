/- Contracts of journey.farthest, tanksOf and journey.farthestWith, of the program. -/
import Derived.Test.YtgpbkjakmbmccaaJeep
import Derived.IntWalk
namespace Go.Proofs.Ytgpbkjakmbmccaa
open Go.RowKit
set_option maxRecDepth 100000
set_option linter.unusedVariables false
set_option linter.unusedSimpArgs false

set_option maxHeartbeats 1600000 in
theorem farthest_impl (j : Int) (t : Nat) (r d : Int) (h : OkJ j) (ht : t < 12) (r0 : 0 ≤ r) (r1 : r ≤ 1000000000) (d0 : 1 ≤ d) (d1 : d ≤ 1000000000) (w : World) :
    Calls Try.prog 87 #[.int .i64 j, .int .i64 t, .agg #[.int .i64 r, .int .i64 d]] w fun e w' => e = .returned (.tuple #[.agg #[.int .i64 (lowN (faN j t r d) (faD j t d)), .int .i64 (lowD (faN j t r d) (faD j t d))], .bool (lowB (faN j t r d) (faD j t d))]) ∧ Below w.heap.size w w' := by
  obtain ⟨b1, b2, b3, b4, b5, b6, b7, b8⟩ := fa_bd j t r d h ht r0 r1 d0 d1
  obtain ⟨v0, v1⟩ := drv_bd j t h ht
  obtain ⟨p1, p2, p3, p4, _⟩ := rp_bd j t h ht
  unfold faN faD
  go_enter Try.func87, Try.ntmps87
  (go_wp2_with fail; refine (reach_impl j t h ht _).mono ?_; rintro e w1 ⟨rfl, hb1⟩; have ha1 := hb1; obtain ⟨kc1, kf1, kz1, ky1, kx1, kv1, ku1⟩ := bcell hb1)
  go_wp2
  have wq1 : IntKind.i64.wrap (d * drv j t) = d * drv j t := IntWalk.i64_in _ (by omega)
  go_quiet ((go_at_call 112; exact Calls.quiet_of_same (drives_q j t h ht _)))
  clear wq1
  (go_wp2_with fail; refine (low_impl _ _ (by omega) (by omega) _).mono ?_; rintro e w2 ⟨rfl, hb2⟩; have ha2 := bjoin ha1 hb2 (by (repeat (first | with_reducible exact Below.refl _ _ | with_reducible assumption | with_reducible refine balloc ?_ _ | with_reducible refine bdrew ?_ | with_reducible refine below_drewN ?_ _ | with_reducible refine bset ?_ ?_ _ | with_reducible exact Nat.le_refl _ | with_reducible refine bsize ?_ | (dsimp only; refine Nat.le_trans ?_ (Nat.le_add_right _ _)) | with_reducible refine Nat.le_trans ?_ (Nat.le_add_right _ _) | (with_reducible refine bstep ?_ (by assumption))))); obtain ⟨kc2, kf2, kz2, ky2, kx2, kv2, ku2⟩ := bcell hb2; obtain ⟨jc2, jf2, jz2, jy2, jx2, jv2, ju2⟩ := bcell ha2)
  go_wp2
  refine bodyPost_ret (v := .tuple #[.agg #[.int .i64 (lowN ((rP j t).1 * (d * drv j t) + r * (rP j t).2) ((rP j t).2 * (d * drv j t))), .int .i64 (lowD ((rP j t).1 * (d * drv j t) + r * (rP j t).2) ((rP j t).2 * (d * drv j t)))], .bool (lowB ((rP j t).1 * (d * drv j t) + r * (rP j t).2) ((rP j t).2 * (d * drv j t)))]) (by simp only [results, Try.results87]; go_simp) rfl ⟨rfl, ?_⟩
  (repeat (first | with_reducible exact Below.refl _ _ | with_reducible assumption | with_reducible refine balloc ?_ _ | with_reducible refine bdrew ?_ | with_reducible refine below_drewN ?_ _ | with_reducible refine bset ?_ ?_ _ | with_reducible exact Nat.le_refl _ | with_reducible refine bsize ?_ | (dsimp only; refine Nat.le_trans ?_ (Nat.le_add_right _ _)) | with_reducible refine Nat.le_trans ?_ (Nat.le_add_right _ _) | (with_reducible refine bstep ?_ (by assumption))))

/-- Is it fuel of at most m tanks? -/
def tkB (n d m : Int) : Bool := amB n d && decide (n ≤ m * d)
theorem tkB_yes (n d m : Int) (h : tkB n d m = true) : amB n d = true ∧ n ≤ m * d := by simpa [tkB] using h

set_option maxHeartbeats 800000 in
theorem tanks_no (n d m : Int) (bn : -9223372036854775808 ≤ n ∧ n ≤ 9223372036854775807) (bd : -9223372036854775808 ≤ d ∧ d ≤ 9223372036854775807) (m0 : 0 ≤ m) (m1 : m ≤ 10) (h : tkB n d m = false) (w : World) :
    Calls Try.prog 86 #[.agg #[.int .i64 n, .int .i64 d], .int .i64 m] w fun e w' => e = .returned (.tuple #[.int .i64 0, .agg #[.int .i64 0, .int .i64 0], .bool false]) ∧ Below w.heap.size w w' := by
  cases h1 : amB n d
  · clear h
    go_enter Try.func86, Try.ntmps86
    (go_wp2_with fail; refine (isam_impl _ _ (by omega) (by omega) _).mono ?_; rintro e w1 ⟨rfl, hb1⟩; rw [h1]; have ha1 := hb1; obtain ⟨kc1, kf1, kz1, ky1, kx1, kv1, ku1⟩ := bcell hb1)
    go_wp2
    refine bodyPost_ret (v := .tuple #[.int .i64 0, .agg #[.int .i64 0, .int .i64 0], .bool false]) (by simp only [results, Try.results86]; go_simp) rfl ⟨rfl, ?_⟩
    (repeat (first | with_reducible exact Below.refl _ _ | with_reducible assumption | with_reducible refine balloc ?_ _ | with_reducible refine bdrew ?_ | with_reducible refine below_drewN ?_ _ | with_reducible refine bset ?_ ?_ _ | with_reducible exact Nat.le_refl _ | with_reducible refine bsize ?_ | (dsimp only; refine Nat.le_trans ?_ (Nat.le_add_right _ _)) | with_reducible refine Nat.le_trans ?_ (Nat.le_add_right _ _) | (with_reducible refine bstep ?_ (by assumption))))
  · obtain ⟨a1, a2, a3, a4⟩ := am_of n d h1
    have hgt : m * d < n := by simpa [tkB, h1] using h
    have hm := mul_le m d 10 1000000000 m0 m1 (by omega) a4
    clear h
    go_enter Try.func86, Try.ntmps86
    (go_wp2_with fail; refine (isam_impl _ _ (by omega) (by omega) _).mono ?_; rintro e w1 ⟨rfl, hb1⟩; rw [h1]; have ha1 := hb1; obtain ⟨kc1, kf1, kz1, ky1, kx1, kv1, ku1⟩ := bcell hb1)
    go_wp2
    refine bodyPost_ret (v := .tuple #[.int .i64 0, .agg #[.int .i64 0, .int .i64 0], .bool false]) (by simp only [results, Try.results86]; go_simp) rfl ⟨rfl, ?_⟩
    (repeat (first | with_reducible exact Below.refl _ _ | with_reducible assumption | with_reducible refine balloc ?_ _ | with_reducible refine bdrew ?_ | with_reducible refine below_drewN ?_ _ | with_reducible refine bset ?_ ?_ _ | with_reducible exact Nat.le_refl _ | with_reducible refine bsize ?_ | (dsimp only; refine Nat.le_trans ?_ (Nat.le_add_right _ _)) | with_reducible refine Nat.le_trans ?_ (Nat.le_add_right _ _) | (with_reducible refine bstep ?_ (by assumption))))

set_option maxHeartbeats 1600000 in
theorem tanks_yes (n d m : Int) (m0 : 0 ≤ m) (m1 : m ≤ 10) (h : tkB n d m = true) (w : World) :
    Calls Try.prog 86 #[.agg #[.int .i64 n, .int .i64 d], .int .i64 m] w fun e w' => e = .returned (.tuple #[.int .i64 (n / d), .agg #[.int .i64 (n % d), .int .i64 d], .bool true]) ∧ Below w.heap.size w w' := by
  obtain ⟨h1, hle⟩ := tkB_yes n d m h
  obtain ⟨a1, a2, a3, a4⟩ := am_of n d h1
  have hm := mul_le m d 10 1000000000 m0 m1 (by omega) a4
  have e1 : 0 ≤ n / d := Int.ediv_nonneg a1 (by omega)
  have e2 : n / d ≤ n := Int.ediv_le_self _ a1
  have e3 : 0 ≤ n % d := Int.emod_nonneg _ (by omega)
  have e4 : n % d < d := Int.emod_lt_of_pos _ (by omega)
  have hd : ¬ d = 0 := by omega
  clear h
  go_enter Try.func86, Try.ntmps86
  (go_wp2_with fail; refine (isam_impl _ _ (by omega) (by omega) _).mono ?_; rintro e w1 ⟨rfl, hb1⟩; rw [h1]; have ha1 := hb1; obtain ⟨kc1, kf1, kz1, ky1, kx1, kv1, ku1⟩ := bcell hb1)
  go_wp2
  go_region
  all_goals go_wp2
  refine bodyPost_ret (v := .tuple #[.int .i64 (n / d), .agg #[.int .i64 (n % d), .int .i64 d], .bool true]) (by simp only [results, Try.results86]; go_simp) rfl ⟨rfl, ?_⟩
  (repeat (first | with_reducible exact Below.refl _ _ | with_reducible assumption | with_reducible refine balloc ?_ _ | with_reducible refine bdrew ?_ | with_reducible refine below_drewN ?_ _ | with_reducible refine bset ?_ ?_ _ | with_reducible exact Nat.le_refl _ | with_reducible refine bsize ?_ | (dsimp only; refine Nat.le_trans ?_ (Nat.le_add_right _ _)) | with_reducible refine Nat.le_trans ?_ (Nat.le_add_right _ _) | (with_reducible refine bstep ?_ (by assumption))))

/-- How far with n / d, at most m tanks: is there an answer, and which. -/
def fwB (j n d : Int) : Bool := tkB n d 10 && lowB (fwN j n d) (fwD j n d)
def fwX (j n d : Int) : Int := if fwB j n d = true then lowN (fwN j n d) (fwD j n d) else 0
def fwY (j n d : Int) : Int := if fwB j n d = true then lowD (fwN j n d) (fwD j n d) else 0
theorem tk_quot (n d m : Int) (k : Nat) (hk : m = k) (h : tkB n d m = true) : ∃ t : Nat, t ≤ k ∧ n / d = t ∧ (n / d).toNat = t := by
  obtain ⟨h1, hle⟩ := tkB_yes n d m h
  obtain ⟨a1, a2, a3, a4⟩ := am_of n d h1
  have e1 : 0 ≤ n / d := Int.ediv_nonneg a1 (by omega)
  have e2 : n / d ≤ m := Int.le_of_lt_add_one (Int.ediv_lt_of_lt_mul (by omega) (by rw [Int.add_mul]; omega))
  exact ⟨(n / d).toNat, by omega, by omega, rfl⟩
theorem rem_bd (n d : Int) (h : amB n d = true) : 0 ≤ n % d ∧ n % d ≤ 1000000000 ∧ n % d < d := by
  obtain ⟨a1, a2, a3, a4⟩ := am_of n d h
  have e3 : 0 ≤ n % d := Int.emod_nonneg _ (by omega)
  have e4 : n % d < d := Int.emod_lt_of_pos _ (by omega)
  omega

set_option maxHeartbeats 1600000 in
theorem fw_impl (j n d : Int) (hj : OkJ j) (bn : -9223372036854775808 ≤ n ∧ n ≤ 9223372036854775807) (bd : -9223372036854775808 ≤ d ∧ d ≤ 9223372036854775807) (w : World) :
    Calls Try.prog 53 #[.int .i64 j, .agg #[.int .i64 n, .int .i64 d]] w fun e w' => e = .returned (.tuple #[.agg #[.int .i64 (fwX j n d), .int .i64 (fwY j n d)], .bool (fwB j n d)]) ∧ Below w.heap.size w w' := by
  cases h : tkB n d 10
  · have hB : fwB j n d = false := by simp [fwB, h]
    have hX : fwX j n d = 0 := by simp [fwX, hB]
    have hY : fwY j n d = 0 := by simp [fwY, hB]
    rw [hB, hX, hY]
    clear hB hX hY
    go_enter Try.func53, Try.ntmps53
    (go_wp2_with fail; refine (tanks_no n d 10 bn bd (by omega) (by omega) h _).mono ?_; rintro e w1 ⟨rfl, hb1⟩; have ha1 := hb1; obtain ⟨kc1, kf1, kz1, ky1, kx1, kv1, ku1⟩ := bcell hb1)
    go_wp2
    refine bodyPost_ret (v := .tuple #[.agg #[.int .i64 0, .int .i64 0], .bool false]) (by simp only [results, Try.results53]; go_simp) rfl ⟨rfl, ?_⟩
    (repeat (first | with_reducible exact Below.refl _ _ | with_reducible assumption | with_reducible refine balloc ?_ _ | with_reducible refine bdrew ?_ | with_reducible refine below_drewN ?_ _ | with_reducible refine bset ?_ ?_ _ | with_reducible exact Nat.le_refl _ | with_reducible refine bsize ?_ | (dsimp only; refine Nat.le_trans ?_ (Nat.le_add_right _ _)) | with_reducible refine Nat.le_trans ?_ (Nat.le_add_right _ _) | (with_reducible refine bstep ?_ (by assumption))))
  · have hB : fwB j n d = lowB (fwN j n d) (fwD j n d) := by simp [fwB, h]
    have hX : fwX j n d = lowN (fwN j n d) (fwD j n d) := by
      unfold fwX; rw [hB]; split
      · rfl
      · rename_i hb; exact (lowN_no _ _ (by simpa using hb)).symm
    have hY : fwY j n d = lowD (fwN j n d) (fwD j n d) := by
      unfold fwY; rw [hB]; split
      · rfl
      · rename_i hb; exact (lowD_no _ _ (by simpa using hb)).symm
    rw [hB, hX, hY]
    clear hB hX hY
    obtain ⟨h1, hle⟩ := tkB_yes n d 10 h
    obtain ⟨t, ht, e1, e2⟩ := tk_quot n d 10 10 rfl h
    obtain ⟨r0, r1, r2⟩ := rem_bd n d h1
    obtain ⟨a1, a2, a3, a4⟩ := am_of n d h1
    have hcon := fun W => tanks_yes n d 10 (by omega) (by omega) h W
    unfold fwN fwD
    rw [e2]
    rw [e1] at hcon
    generalize n % d = r at *
    have HC := Lib.hid hcon
    clear hcon e1 e2 hle h h1
    go_enter Try.func53, Try.ntmps53
    (go_wp2_with fail; refine (HC.out _).mono ?_; rintro e w1 ⟨rfl, hb1⟩; have ha1 := hb1; obtain ⟨kc1, kf1, kz1, ky1, kx1, kv1, ku1⟩ := bcell hb1)
    (go_wp2_with fail; refine (farthest_impl j t r d hj (by omega) r0 r1 a3 a4 _).mono ?_; rintro e w2 ⟨rfl, hb2⟩; have ha2 := bjoin ha1 hb2 (by (repeat (first | with_reducible exact Below.refl _ _ | with_reducible assumption | with_reducible refine balloc ?_ _ | with_reducible refine bdrew ?_ | with_reducible refine below_drewN ?_ _ | with_reducible refine bset ?_ ?_ _ | with_reducible exact Nat.le_refl _ | with_reducible refine bsize ?_ | (dsimp only; refine Nat.le_trans ?_ (Nat.le_add_right _ _)) | with_reducible refine Nat.le_trans ?_ (Nat.le_add_right _ _) | (with_reducible refine bstep ?_ (by assumption))))); obtain ⟨kc2, kf2, kz2, ky2, kx2, kv2, ku2⟩ := bcell hb2; obtain ⟨jc2, jf2, jz2, jy2, jx2, jv2, ju2⟩ := bcell ha2)
    go_wp2
    refine bodyPost_ret (v := .tuple #[.agg #[.int .i64 (lowN (faN j t r d) (faD j t d)), .int .i64 (lowD (faN j t r d) (faD j t d))], .bool (lowB (faN j t r d) (faD j t d))]) (by simp only [results, Try.results53]; go_simp) rfl ⟨rfl, ?_⟩
    (repeat (first | with_reducible exact Below.refl _ _ | with_reducible assumption | with_reducible refine balloc ?_ _ | with_reducible refine bdrew ?_ | with_reducible refine below_drewN ?_ _ | with_reducible refine bset ?_ ?_ _ | with_reducible exact Nat.le_refl _ | with_reducible refine bsize ?_ | (dsimp only; refine Nat.le_trans ?_ (Nat.le_add_right _ _)) | with_reducible refine Nat.le_trans ?_ (Nat.le_add_right _ _) | (with_reducible refine bstep ?_ (by assumption))))
end Go.Proofs.Ytgpbkjakmbmccaa
