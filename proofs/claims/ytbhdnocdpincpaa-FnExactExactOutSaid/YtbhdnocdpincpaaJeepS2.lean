/- The contract of the model's jeFar. -/
import Derived.Test.YtbhdnocdpincpaaJeepS
namespace Go.Proofs.Ytbhdnocdpincpaa
open Go.RowKit
set_option maxRecDepth 100000
set_option linter.unusedVariables false
set_option linter.unusedSimpArgs false

theorem gP_two (t : Nat) : gP 2 t = rP 1 t := by unfold gP rP; rfl
def halfOk (t : Nat) : Bool := lowB ((gP 1 t).1 * 1) ((gP 1 t).2 * 2) && lowN ((gP 1 t).1 * 1) ((gP 1 t).2 * 2) == (rP 2 t).1 && lowD ((gP 1 t).1 * 1) ((gP 1 t).2 * 2) == (rP 2 t).2
theorem half_all : ∀ t, t < 12 → halfOk t = true := by decide +kernel
theorem half_of (t : Nat) (h : t < 12) : lowB ((gP 1 t).1 * 1) ((gP 1 t).2 * 2) = true ∧ lowN ((gP 1 t).1 * 1) ((gP 1 t).2 * 2) = (rP 2 t).1 ∧ lowD ((gP 1 t).1 * 1) ((gP 1 t).2 * 2) = (rP 2 t).2 := by
  have hs := half_all t h
  simp only [halfOk, Bool.and_eq_true, beq_iff_eq] at hs
  exact ⟨hs.1.1, hs.1.2, hs.2⟩
/-- Half of a harmonic sum. -/
theorem half_spec (t : Nat) (h : t < 12) (w : World) :
    Calls Try.prog 62 #[.agg #[.int .i64 (gP 1 t).1, .int .i64 (gP 1 t).2], .agg #[.int .i64 2, .int .i64 1]] w fun e w' => e = .returned (.tuple #[.agg #[.int .i64 (rP 2 t).1, .int .i64 (rP 2 t).2], .bool true]) ∧ Below w.heap.size w w' := by
  have hg := am_of _ _ (g_am 1 t t ⟨Or.inl rfl, h⟩ (Nat.le_refl _))
  have hw := am_of 2 1 (am_whole 2 (by omega) (by omega))
  have hc := amPart_spec (gP 1 t).1 (gP 1 t).2 2 1 hg hw (by omega) w
  obtain ⟨e1, e2, e3⟩ := half_of t h
  rw [e1, e2, e3] at hc
  exact hc

set_option maxHeartbeats 3200000 in
theorem far_part_out (n d : Int) (t : Nat) (r : Int) (ht : t < 12) (ha : amB n d = true) (e1 : n / d = t) (e2 : n % d = r) (hr : 0 < r) (w : World) :
    Calls Try.prog 54 #[.agg #[.int .i64 n, .int .i64 d], .bool false] w fun e w' => e = .returned (.tuple #[.agg #[.int .i64 (lowN (faN 1 t r d) (faD 1 t d)), .int .i64 (lowD (faN 1 t r d) (faD 1 t d))], .bool (lowB (faN 1 t r d) (faD 1 t d))]) ∧ Below w.heap.size w w' := by
  obtain ⟨r0, r1, r2⟩ := rem_bd n d ha
  rw [e2] at r0 r1 r2
  obtain ⟨a1, a2, a3, a4⟩ := am_of n d ha
  obtain ⟨b1, b2, b3, b4, b5, b6, b7, b8⟩ := fa_bd 1 t r d (Or.inl rfl) ht r0 r1 a3 a4
  obtain ⟨p1, p2, p3, p4, _⟩ := rp_bd 1 t (Or.inl rfl) ht
  have hr0 : ¬ r = 0 := by omega
  have hd0 : ¬ d = 0 := by omega
  have hcon := fun W => harmS 2 t ⟨Or.inr rfl, ht⟩ W
  have hcon1 := fun W => harmS 1 t ⟨Or.inl rfl, ht⟩ W
  have hcon2 := fun W => half_spec t ht W
  rw [gP_two] at hcon
  simp only [drv] at b1 b2 b3 b4 b5 b6 b7 b8
  unfold faN faD drv
  have HC := Lib.hid hcon
  have HC1 := Lib.hid hcon1
  have HC2 := Lib.hid hcon2
  clear hcon hcon1 hcon2 ha
  go_enter Try.func54, Try.ntmps54
  go_wp2
  go_region
  (go_wp2_with fail; refine (HC.out _).mono ?_; rintro e w1 ⟨rfl, hb1⟩; have ha1 := hb1; obtain ⟨kc1, kf1, kz1, ky1, kx1, kv1, ku1⟩ := bcell hb1)
  (go_wp2_with fail; refine (make_spec _ _ (by omega) (by omega) (by omega) (by omega) _).mono ?_; rintro e w2 ⟨rfl, hb2⟩; have ha2 := bjoin ha1 hb2 (by (repeat (first | with_reducible exact Below.refl _ _ | with_reducible assumption | with_reducible refine balloc ?_ _ | with_reducible refine bdrew ?_ | with_reducible refine below_drewN ?_ _ | with_reducible refine bset ?_ ?_ _ | with_reducible exact Nat.le_refl _ | with_reducible refine bsize ?_ | (dsimp only; refine Nat.le_trans ?_ (Nat.le_add_right _ _)) | with_reducible refine Nat.le_trans ?_ (Nat.le_add_right _ _) | (with_reducible refine bstep ?_ (by assumption))))); obtain ⟨kc2, kf2, kz2, ky2, kx2, kv2, ku2⟩ := bcell hb2; obtain ⟨jc2, jf2, jz2, jy2, jx2, jv2, ju2⟩ := bcell ha2)
  go_wp2
  refine bodyPost_ret (v := .tuple #[.agg #[.int .i64 (lowN ((rP 1 t).1 * (d * (2 * (t : Int) + 1)) + r * (rP 1 t).2) ((rP 1 t).2 * (d * (2 * (t : Int) + 1)))), .int .i64 (lowD ((rP 1 t).1 * (d * (2 * (t : Int) + 1)) + r * (rP 1 t).2) ((rP 1 t).2 * (d * (2 * (t : Int) + 1))))], .bool (lowB ((rP 1 t).1 * (d * (2 * (t : Int) + 1)) + r * (rP 1 t).2) ((rP 1 t).2 * (d * (2 * (t : Int) + 1))))]) (by simp only [results, Try.results54]; go_simp) rfl ⟨rfl, ?_⟩
  (repeat (first | with_reducible exact Below.refl _ _ | with_reducible assumption | with_reducible refine balloc ?_ _ | with_reducible refine bdrew ?_ | with_reducible refine below_drewN ?_ _ | with_reducible refine bset ?_ ?_ _ | with_reducible exact Nat.le_refl _ | with_reducible refine bsize ?_ | (dsimp only; refine Nat.le_trans ?_ (Nat.le_add_right _ _)) | with_reducible refine Nat.le_trans ?_ (Nat.le_add_right _ _) | (with_reducible refine bstep ?_ (by assumption))))

theorem fa_whole_out (t : Nat) (ht : t < 12) : lowB (faN 1 t 0 1) (faD 1 t 1) = true ∧ lowN (faN 1 t 0 1) (faD 1 t 1) = (rP 1 t).1 ∧ lowD (faN 1 t 0 1) (faD 1 t 1) = (rP 1 t).2 := by
  obtain ⟨v0, v1⟩ := drv_bd 1 t (Or.inl rfl) ht
  obtain ⟨p1, p2, p3, p4, pa⟩ := rp_bd 1 t (Or.inl rfl) ht
  have hs := low_scale (drv 1 t) (rP 1 t).1 (rP 1 t).2 (by omega) p3
  obtain ⟨l1, l2, l3⟩ := low_am _ _ pa
  have q1 : faN 1 t 0 1 = drv 1 t * (rP 1 t).1 := by unfold faN; rw [Int.one_mul, Int.zero_mul, Int.add_zero, Int.mul_comm]
  have q2 : faD 1 t 1 = drv 1 t * (rP 1 t).2 := by unfold faD; rw [Int.one_mul, Int.mul_comm]
  rw [q1, q2, hs.1, hs.2.1, hs.2.2]
  exact ⟨l1, l2, l3⟩
set_option maxHeartbeats 3200000 in
theorem far_whole_out (t : Nat) (ht : t < 12) (w : World) :
    Calls Try.prog 54 #[.agg #[.int .i64 t, .int .i64 1], .bool false] w fun e w' => e = .returned (.tuple #[.agg #[.int .i64 (rP 1 t).1, .int .i64 (rP 1 t).2], .bool true]) ∧ Below w.heap.size w w' := by
  obtain ⟨b1, b2, b3, b4, b5, b6, b7, b8⟩ := fa_bd 1 t 0 1 (Or.inl rfl) ht (by omega) (by omega) (by omega) (by omega)
  obtain ⟨p1, p2, p3, p4, _⟩ := rp_bd 1 t (Or.inl rfl) ht
  have hcon := fun W => harmS 2 t ⟨Or.inr rfl, ht⟩ W
  have hcon1 := fun W => harmS 1 t ⟨Or.inl rfl, ht⟩ W
  have hcon2 := fun W => half_spec t ht W
  rw [gP_two] at hcon
  have hmk := fun W => make_spec (faN 1 t 0 1) (faD 1 t 1) (by unfold faN; omega) (by unfold faD; omega) (by unfold faN; omega) (by unfold faD; omega) W
  rw [(fa_whole_out t ht).1, (fa_whole_out t ht).2.1, (fa_whole_out t ht).2.2] at hmk
  simp only [drv, faN, faD, Int.one_mul, Int.zero_mul, Int.add_zero] at b1 b2 b3 b4 b5 b6 b7 b8 hmk
  have HC := Lib.hid hcon
  have HC1 := Lib.hid hcon1
  have HC2 := Lib.hid hcon2
  have HM := Lib.hid hmk
  clear hcon hcon1 hcon2 hmk
  go_enter Try.func54, Try.ntmps54
  go_wp2
  go_region
  (go_wp2_with fail; refine (HC.out _).mono ?_; rintro e w1 ⟨rfl, hb1⟩; have ha1 := hb1; obtain ⟨kc1, kf1, kz1, ky1, kx1, kv1, ku1⟩ := bcell hb1)
  go_wp2_with fail
  try simp only [Int.one_mul, Int.zero_mul, Int.add_zero]
  refine (HM.out _).mono ?_
  rintro e w2 ⟨rfl, hb2⟩
  have ha2 := bjoin ha1 hb2 (by (repeat (first | with_reducible exact Below.refl _ _ | with_reducible assumption | with_reducible refine balloc ?_ _ | with_reducible refine bdrew ?_ | with_reducible refine below_drewN ?_ _ | with_reducible refine bset ?_ ?_ _ | with_reducible exact Nat.le_refl _ | with_reducible refine bsize ?_ | (dsimp only; refine Nat.le_trans ?_ (Nat.le_add_right _ _)) | with_reducible refine Nat.le_trans ?_ (Nat.le_add_right _ _) | (with_reducible refine bstep ?_ (by assumption)))))
  obtain ⟨kc2, kf2, kz2, ky2, kx2, kv2, ku2⟩ := bcell hb2
  obtain ⟨jc2, jf2, jz2, jy2, jx2, jv2, ju2⟩ := bcell ha2
  go_wp2
  refine bodyPost_ret (v := .tuple #[.agg #[.int .i64 (rP 1 t).1, .int .i64 (rP 1 t).2], .bool true]) (by simp only [results, Try.results54]; go_simp) rfl ⟨rfl, ?_⟩
  (repeat (first | with_reducible exact Below.refl _ _ | with_reducible assumption | with_reducible refine balloc ?_ _ | with_reducible refine bdrew ?_ | with_reducible refine below_drewN ?_ _ | with_reducible refine bset ?_ ?_ _ | with_reducible exact Nat.le_refl _ | with_reducible refine bsize ?_ | (dsimp only; refine Nat.le_trans ?_ (Nat.le_add_right _ _)) | with_reducible refine Nat.le_trans ?_ (Nat.le_add_right _ _) | (with_reducible refine bstep ?_ (by assumption))))

/-- jeFar. -/
theorem far_out (n d : Int) (ha : amB n d = true) (h11 : n ≤ 11 * d) (w : World) :
    Calls Try.prog 54 #[.agg #[.int .i64 n, .int .i64 d], .bool false] w fun e w' => e = .returned (.tuple #[.agg #[.int .i64 (lowN (fwN 1 n d) (fwD 1 n d)), .int .i64 (lowD (fwN 1 n d) (fwD 1 n d))], .bool (lowB (fwN 1 n d) (fwD 1 n d))]) ∧ Below w.heap.size w w' := by
  obtain ⟨a1, a2, a3, a4⟩ := am_of n d ha
  have q1 : 0 ≤ n / d := Int.ediv_nonneg a1 (by omega)
  have q2 : n / d ≤ 11 := Int.le_of_lt_add_one (Int.ediv_lt_of_lt_mul (by omega) (by rw [Int.add_mul]; omega))
  obtain ⟨t, ht⟩ : ∃ t : Nat, n / d = t := ⟨(n / d).toNat, by omega⟩
  obtain ⟨r0, r1, r2⟩ := rem_bd n d ha
  unfold fwN fwD
  have e : (n / d).toNat = t := by omega
  rw [e]
  by_cases hr : n % d = 0
  · have hd := am_rem n d ha
    rw [hr] at hd
    have hd1 := ((amB_iff 0 d).1 hd).2.2.2.2
    have hd2 : d = 1 := by unfold gi at hd1; rw [Int.gcd_zero_left] at hd1; omega
    subst hd2
    have hn : n = t := by rw [← ht, Int.ediv_one]
    subst hn
    rw [hr, (fa_whole_out t (by omega)).1, (fa_whole_out t (by omega)).2.1, (fa_whole_out t (by omega)).2.2]
    exact far_whole_out t (by omega) w
  · exact far_part_out n d t (n % d) (by omega) ha ht rfl (by omega) w

set_option maxHeartbeats 3200000 in
theorem far_part_back (n d : Int) (t : Nat) (r : Int) (ht : t < 12) (ha : amB n d = true) (e1 : n / d = t) (e2 : n % d = r) (hr : 0 < r) (w : World) :
    Calls Try.prog 54 #[.agg #[.int .i64 n, .int .i64 d], .bool true] w fun e w' => e = .returned (.tuple #[.agg #[.int .i64 (lowN (faN 2 t r d) (faD 2 t d)), .int .i64 (lowD (faN 2 t r d) (faD 2 t d))], .bool (lowB (faN 2 t r d) (faD 2 t d))]) ∧ Below w.heap.size w w' := by
  obtain ⟨r0, r1, r2⟩ := rem_bd n d ha
  rw [e2] at r0 r1 r2
  obtain ⟨a1, a2, a3, a4⟩ := am_of n d ha
  obtain ⟨b1, b2, b3, b4, b5, b6, b7, b8⟩ := fa_bd 2 t r d (Or.inr rfl) ht r0 r1 a3 a4
  obtain ⟨p1, p2, p3, p4, _⟩ := rp_bd 2 t (Or.inr rfl) ht
  have hr0 : ¬ r = 0 := by omega
  have hd0 : ¬ d = 0 := by omega
  have hcon := fun W => harmS 2 t ⟨Or.inr rfl, ht⟩ W
  have hcon1 := fun W => harmS 1 t ⟨Or.inl rfl, ht⟩ W
  have hcon2 := fun W => half_spec t ht W
  rw [gP_two] at hcon
  simp only [drv] at b1 b2 b3 b4 b5 b6 b7 b8
  unfold faN faD drv
  have HC := Lib.hid hcon
  have HC1 := Lib.hid hcon1
  have HC2 := Lib.hid hcon2
  clear hcon hcon1 hcon2 ha
  go_enter Try.func54, Try.ntmps54
  go_wp2
  go_region
  (go_wp2_with fail; refine (HC.out _).mono ?_; rintro e w1 ⟨rfl, hb1⟩; have ha1 := hb1; obtain ⟨kc1, kf1, kz1, ky1, kx1, kv1, ku1⟩ := bcell hb1)
  (go_wp2_with fail; refine (HC1.out _).mono ?_; rintro e w3 ⟨rfl, hb3⟩; have ha3 := bjoin ha1 hb3 (by (repeat (first | with_reducible exact Below.refl _ _ | with_reducible assumption | with_reducible refine balloc ?_ _ | with_reducible refine bdrew ?_ | with_reducible refine below_drewN ?_ _ | with_reducible refine bset ?_ ?_ _ | with_reducible exact Nat.le_refl _ | with_reducible refine bsize ?_ | (dsimp only; refine Nat.le_trans ?_ (Nat.le_add_right _ _)) | with_reducible refine Nat.le_trans ?_ (Nat.le_add_right _ _) | (with_reducible refine bstep ?_ (by assumption))))); obtain ⟨kc3, kf3, kz3, ky3, kx3, kv3, ku3⟩ := bcell hb3; obtain ⟨jc3, jf3, jz3, jy3, jx3, jv3, ju3⟩ := bcell ha3)
  have u0 : w1.heap.size < w3.heap.size := kz3 _ (by simp)
  have n0 : w.heap.size + 1 + 1 < w1.heap.size := kz1 _ (by simp)
  have n1 : ¬ w.heap.size + 1 + 1 = w1.heap.size := by omega
  have n2 : ¬ w1.heap.size = w.heap.size + 1 + 1 := by omega
  have n3 : ¬ w.heap.size + 1 = w1.heap.size := by omega
  have n4 : ¬ w1.heap.size = w.heap.size + 1 := by omega
  have u1 : w3.frozen? ⟨w1.heap.size, 0, none⟩ = false := by rw [kf3 _ _ (by simp)]; simp [go_sem]
  have u2 : w3.frozen? ⟨w1.heap.size, 1, none⟩ = false := by rw [kf3 _ _ (by simp)]; simp [go_sem]
  have u3 : w3.cell? ⟨w1.heap.size, 0, none⟩ = some (.int .i64 (rP 1 t).1) := by rw [kc3 _ _ (by simp)]; simp [go_sem]
  have u4 : w3.cell? ⟨w1.heap.size, 1, none⟩ = some (.int .i64 (rP 1 t).2) := by rw [kc3 _ _ (by simp)]; simp [go_sem]
  clear kc3 kf3 kz3 ky3 kx3 kv3 ku3
  go_wp2_with fail
  refine (whole_is_spec _ _).mono ?_
  rintro e w4 ⟨rfl, rfl⟩
  (go_wp2_with fail; refine (HC2.out _).mono ?_; rintro e w5 ⟨rfl, hb5⟩; have ha5 := bjoin ha3 hb5 (by (repeat (first | with_reducible exact Below.refl _ _ | with_reducible assumption | with_reducible refine balloc ?_ _ | with_reducible refine bdrew ?_ | with_reducible refine below_drewN ?_ _ | with_reducible refine bset ?_ ?_ _ | with_reducible exact Nat.le_refl _ | with_reducible refine bsize ?_ | (dsimp only; refine Nat.le_trans ?_ (Nat.le_add_right _ _)) | with_reducible refine Nat.le_trans ?_ (Nat.le_add_right _ _) | (with_reducible refine bstep ?_ (by assumption))))); obtain ⟨kc5, kf5, kz5, ky5, kx5, kv5, ku5⟩ := bcell hb5; obtain ⟨jc5, jf5, jz5, jy5, jx5, jv5, ju5⟩ := bcell ha5)
  have u5 : w1.heap.size < w5.heap.size := kz5 _ (by simp; omega)
  have u6 : w5.frozen? ⟨w1.heap.size, 0, none⟩ = false := by rw [kf5 _ _ (by simp; omega)]; simp [go_sem, u1, u0]
  have u7 : w5.frozen? ⟨w1.heap.size, 1, none⟩ = false := by rw [kf5 _ _ (by simp; omega)]; simp [go_sem, u2, u0]
  have u8 : w5.cell? ⟨w1.heap.size, 0, none⟩ = some (.int .i64 (rP 1 t).1) := by rw [kc5 _ _ (by simp; omega)]; simp [go_sem, u3, u0]
  have u9 : w5.cell? ⟨w1.heap.size, 1, none⟩ = some (.int .i64 (rP 1 t).2) := by rw [kc5 _ _ (by simp; omega)]; simp [go_sem, u4, u0]
  clear kc5 kf5 kz5 ky5 kx5 kv5 ku5 u1 u2 u3 u4 jc3 jf3 jz3 jy3 jx3 jv3 ju3
  have y0 : w.heap.size + 1 < w5.heap.size := jz5 _ (by simp)
  have y1 : w5.frozen? ⟨w.heap.size + 1, 0, none⟩ = false := by rw [jf5 _ _ (by simp)]; simp [go_sem]
  have y2 : w5.frozen? ⟨w.heap.size + 1, 1, none⟩ = false := by rw [jf5 _ _ (by simp)]; simp [go_sem]
  have y3 : w5.cell? ⟨w.heap.size + 1, 0, none⟩ = some (.int .i64 0) := by rw [jc5 _ _ (by simp)]; simp [go_sem]
  have y4 : w5.cell? ⟨w.heap.size + 1, 1, none⟩ = some (.int .i64 0) := by rw [jc5 _ _ (by simp)]; simp [go_sem]
  (go_wp2_with fail; refine (make_spec _ _ (by omega) (by omega) (by omega) (by omega) _).mono ?_; rintro e w2 ⟨rfl, hb2⟩; (have ha2 : Below w.heap.size w w2 := by (repeat (first | with_reducible exact Below.refl _ _ | with_reducible assumption | with_reducible refine balloc ?_ _ | with_reducible refine bdrew ?_ | with_reducible refine below_drewN ?_ _ | with_reducible refine bset ?_ ?_ _ | with_reducible exact Nat.le_refl _ | with_reducible refine bsize ?_ | (dsimp only; refine Nat.le_trans ?_ (Nat.le_add_right _ _)) | with_reducible refine Nat.le_trans ?_ (Nat.le_add_right _ _) | (with_reducible refine bstep ?_ (by assumption))))); obtain ⟨kc2, kf2, kz2, ky2, kx2, kv2, ku2⟩ := bcell hb2)
  have y5 : w.heap.size + 1 < w2.heap.size := kz2 _ (by simp; omega)
  have v1 : w2.frozen? ⟨w.heap.size + 1, 0, none⟩ = false := by rw [kf2 _ _ (by simp; omega)]; simp [go_sem, y1, y0, n3, n4]
  have v2 : w2.frozen? ⟨w.heap.size + 1, 1, none⟩ = false := by rw [kf2 _ _ (by simp; omega)]; simp [go_sem, y2, y0, n3, n4]
  have v3 : w2.cell? ⟨w.heap.size + 1, 0, none⟩ = some (.int .i64 0) := by rw [kc2 _ _ (by simp; omega)]; simp [go_sem, y3, y0, n3, n4]
  have v4 : w2.cell? ⟨w.heap.size + 1, 1, none⟩ = some (.int .i64 0) := by rw [kc2 _ _ (by simp; omega)]; simp [go_sem, y4, y0, n3, n4]
  go_wp2
  refine bodyPost_ret (v := .tuple #[.agg #[.int .i64 (lowN ((rP 2 t).1 * (d * (2 * (t : Int) + 2)) + r * (rP 2 t).2) ((rP 2 t).2 * (d * (2 * (t : Int) + 2)))), .int .i64 (lowD ((rP 2 t).1 * (d * (2 * (t : Int) + 2)) + r * (rP 2 t).2) ((rP 2 t).2 * (d * (2 * (t : Int) + 2))))], .bool (lowB ((rP 2 t).1 * (d * (2 * (t : Int) + 2)) + r * (rP 2 t).2) ((rP 2 t).2 * (d * (2 * (t : Int) + 2))))]) (by simp only [results, Try.results54]; go_simp) rfl ⟨rfl, ?_⟩
  (repeat (first | with_reducible exact Below.refl _ _ | with_reducible assumption | with_reducible refine balloc ?_ _ | with_reducible refine bdrew ?_ | with_reducible refine below_drewN ?_ _ | with_reducible refine bset ?_ ?_ _ | with_reducible exact Nat.le_refl _ | with_reducible refine bsize ?_ | (dsimp only; refine Nat.le_trans ?_ (Nat.le_add_right _ _)) | with_reducible refine Nat.le_trans ?_ (Nat.le_add_right _ _) | (with_reducible refine bstep ?_ (by assumption))))

theorem fa_whole_back (t : Nat) (ht : t < 12) : lowB (faN 2 t 0 1) (faD 2 t 1) = true ∧ lowN (faN 2 t 0 1) (faD 2 t 1) = (rP 2 t).1 ∧ lowD (faN 2 t 0 1) (faD 2 t 1) = (rP 2 t).2 := by
  obtain ⟨v0, v1⟩ := drv_bd 2 t (Or.inr rfl) ht
  obtain ⟨p1, p2, p3, p4, pa⟩ := rp_bd 2 t (Or.inr rfl) ht
  have hs := low_scale (drv 2 t) (rP 2 t).1 (rP 2 t).2 (by omega) p3
  obtain ⟨l1, l2, l3⟩ := low_am _ _ pa
  have q1 : faN 2 t 0 1 = drv 2 t * (rP 2 t).1 := by unfold faN; rw [Int.one_mul, Int.zero_mul, Int.add_zero, Int.mul_comm]
  have q2 : faD 2 t 1 = drv 2 t * (rP 2 t).2 := by unfold faD; rw [Int.one_mul, Int.mul_comm]
  rw [q1, q2, hs.1, hs.2.1, hs.2.2]
  exact ⟨l1, l2, l3⟩
set_option maxHeartbeats 3200000 in
theorem far_whole_back (t : Nat) (ht : t < 12) (w : World) :
    Calls Try.prog 54 #[.agg #[.int .i64 t, .int .i64 1], .bool true] w fun e w' => e = .returned (.tuple #[.agg #[.int .i64 (rP 2 t).1, .int .i64 (rP 2 t).2], .bool true]) ∧ Below w.heap.size w w' := by
  obtain ⟨b1, b2, b3, b4, b5, b6, b7, b8⟩ := fa_bd 2 t 0 1 (Or.inr rfl) ht (by omega) (by omega) (by omega) (by omega)
  obtain ⟨p1, p2, p3, p4, _⟩ := rp_bd 2 t (Or.inr rfl) ht
  have hcon := fun W => harmS 2 t ⟨Or.inr rfl, ht⟩ W
  have hcon1 := fun W => harmS 1 t ⟨Or.inl rfl, ht⟩ W
  have hcon2 := fun W => half_spec t ht W
  rw [gP_two] at hcon
  have hmk := fun W => make_spec (faN 2 t 0 1) (faD 2 t 1) (by unfold faN; omega) (by unfold faD; omega) (by unfold faN; omega) (by unfold faD; omega) W
  rw [(fa_whole_back t ht).1, (fa_whole_back t ht).2.1, (fa_whole_back t ht).2.2] at hmk
  simp only [drv, faN, faD, Int.one_mul, Int.zero_mul, Int.add_zero] at b1 b2 b3 b4 b5 b6 b7 b8 hmk
  have HC := Lib.hid hcon
  have HC1 := Lib.hid hcon1
  have HC2 := Lib.hid hcon2
  have HM := Lib.hid hmk
  clear hcon hcon1 hcon2 hmk
  go_enter Try.func54, Try.ntmps54
  go_wp2
  go_region
  (go_wp2_with fail; refine (HC.out _).mono ?_; rintro e w1 ⟨rfl, hb1⟩; have ha1 := hb1; obtain ⟨kc1, kf1, kz1, ky1, kx1, kv1, ku1⟩ := bcell hb1)
  (go_wp2_with fail; refine (HC1.out _).mono ?_; rintro e w3 ⟨rfl, hb3⟩; have ha3 := bjoin ha1 hb3 (by (repeat (first | with_reducible exact Below.refl _ _ | with_reducible assumption | with_reducible refine balloc ?_ _ | with_reducible refine bdrew ?_ | with_reducible refine below_drewN ?_ _ | with_reducible refine bset ?_ ?_ _ | with_reducible exact Nat.le_refl _ | with_reducible refine bsize ?_ | (dsimp only; refine Nat.le_trans ?_ (Nat.le_add_right _ _)) | with_reducible refine Nat.le_trans ?_ (Nat.le_add_right _ _) | (with_reducible refine bstep ?_ (by assumption))))); obtain ⟨kc3, kf3, kz3, ky3, kx3, kv3, ku3⟩ := bcell hb3; obtain ⟨jc3, jf3, jz3, jy3, jx3, jv3, ju3⟩ := bcell ha3)
  have u0 : w1.heap.size < w3.heap.size := kz3 _ (by simp)
  have n0 : w.heap.size + 1 + 1 < w1.heap.size := kz1 _ (by simp)
  have n1 : ¬ w.heap.size + 1 + 1 = w1.heap.size := by omega
  have n2 : ¬ w1.heap.size = w.heap.size + 1 + 1 := by omega
  have n3 : ¬ w.heap.size + 1 = w1.heap.size := by omega
  have n4 : ¬ w1.heap.size = w.heap.size + 1 := by omega
  have u1 : w3.frozen? ⟨w1.heap.size, 0, none⟩ = false := by rw [kf3 _ _ (by simp)]; simp [go_sem]
  have u2 : w3.frozen? ⟨w1.heap.size, 1, none⟩ = false := by rw [kf3 _ _ (by simp)]; simp [go_sem]
  have u3 : w3.cell? ⟨w1.heap.size, 0, none⟩ = some (.int .i64 (rP 1 t).1) := by rw [kc3 _ _ (by simp)]; simp [go_sem]
  have u4 : w3.cell? ⟨w1.heap.size, 1, none⟩ = some (.int .i64 (rP 1 t).2) := by rw [kc3 _ _ (by simp)]; simp [go_sem]
  clear kc3 kf3 kz3 ky3 kx3 kv3 ku3
  go_wp2_with fail
  refine (whole_is_spec _ _).mono ?_
  rintro e w4 ⟨rfl, rfl⟩
  (go_wp2_with fail; refine (HC2.out _).mono ?_; rintro e w5 ⟨rfl, hb5⟩; have ha5 := bjoin ha3 hb5 (by (repeat (first | with_reducible exact Below.refl _ _ | with_reducible assumption | with_reducible refine balloc ?_ _ | with_reducible refine bdrew ?_ | with_reducible refine below_drewN ?_ _ | with_reducible refine bset ?_ ?_ _ | with_reducible exact Nat.le_refl _ | with_reducible refine bsize ?_ | (dsimp only; refine Nat.le_trans ?_ (Nat.le_add_right _ _)) | with_reducible refine Nat.le_trans ?_ (Nat.le_add_right _ _) | (with_reducible refine bstep ?_ (by assumption))))); obtain ⟨kc5, kf5, kz5, ky5, kx5, kv5, ku5⟩ := bcell hb5; obtain ⟨jc5, jf5, jz5, jy5, jx5, jv5, ju5⟩ := bcell ha5)
  have u5 : w1.heap.size < w5.heap.size := kz5 _ (by simp; omega)
  have u6 : w5.frozen? ⟨w1.heap.size, 0, none⟩ = false := by rw [kf5 _ _ (by simp; omega)]; simp [go_sem, u1, u0]
  have u7 : w5.frozen? ⟨w1.heap.size, 1, none⟩ = false := by rw [kf5 _ _ (by simp; omega)]; simp [go_sem, u2, u0]
  have u8 : w5.cell? ⟨w1.heap.size, 0, none⟩ = some (.int .i64 (rP 1 t).1) := by rw [kc5 _ _ (by simp; omega)]; simp [go_sem, u3, u0]
  have u9 : w5.cell? ⟨w1.heap.size, 1, none⟩ = some (.int .i64 (rP 1 t).2) := by rw [kc5 _ _ (by simp; omega)]; simp [go_sem, u4, u0]
  clear kc5 kf5 kz5 ky5 kx5 kv5 ku5 u1 u2 u3 u4 jc3 jf3 jz3 jy3 jx3 jv3 ju3
  have y0 : w.heap.size + 1 < w5.heap.size := jz5 _ (by simp)
  have y1 : w5.frozen? ⟨w.heap.size + 1, 0, none⟩ = false := by rw [jf5 _ _ (by simp)]; simp [go_sem]
  have y2 : w5.frozen? ⟨w.heap.size + 1, 1, none⟩ = false := by rw [jf5 _ _ (by simp)]; simp [go_sem]
  have y3 : w5.cell? ⟨w.heap.size + 1, 0, none⟩ = some (.int .i64 0) := by rw [jc5 _ _ (by simp)]; simp [go_sem]
  have y4 : w5.cell? ⟨w.heap.size + 1, 1, none⟩ = some (.int .i64 0) := by rw [jc5 _ _ (by simp)]; simp [go_sem]
  go_wp2_with fail
  try simp only [Int.one_mul, Int.zero_mul, Int.add_zero]
  refine (HM.out _).mono ?_
  rintro e w2 ⟨rfl, hb2⟩
  have ha2 : Below w.heap.size w w2 := by (repeat (first | with_reducible exact Below.refl _ _ | with_reducible assumption | with_reducible refine balloc ?_ _ | with_reducible refine bdrew ?_ | with_reducible refine below_drewN ?_ _ | with_reducible refine bset ?_ ?_ _ | with_reducible exact Nat.le_refl _ | with_reducible refine bsize ?_ | (dsimp only; refine Nat.le_trans ?_ (Nat.le_add_right _ _)) | with_reducible refine Nat.le_trans ?_ (Nat.le_add_right _ _) | (with_reducible refine bstep ?_ (by assumption))))
  obtain ⟨kc2, kf2, kz2, ky2, kx2, kv2, ku2⟩ := bcell hb2
  have y5 : w.heap.size + 1 < w2.heap.size := kz2 _ (by simp; omega)
  have v1 : w2.frozen? ⟨w.heap.size + 1, 0, none⟩ = false := by rw [kf2 _ _ (by simp; omega)]; simp [go_sem, y1, y0, n3, n4]
  have v2 : w2.frozen? ⟨w.heap.size + 1, 1, none⟩ = false := by rw [kf2 _ _ (by simp; omega)]; simp [go_sem, y2, y0, n3, n4]
  have v3 : w2.cell? ⟨w.heap.size + 1, 0, none⟩ = some (.int .i64 0) := by rw [kc2 _ _ (by simp; omega)]; simp [go_sem, y3, y0, n3, n4]
  have v4 : w2.cell? ⟨w.heap.size + 1, 1, none⟩ = some (.int .i64 0) := by rw [kc2 _ _ (by simp; omega)]; simp [go_sem, y4, y0, n3, n4]
  go_wp2
  refine bodyPost_ret (v := .tuple #[.agg #[.int .i64 (rP 2 t).1, .int .i64 (rP 2 t).2], .bool true]) (by simp only [results, Try.results54]; go_simp) rfl ⟨rfl, ?_⟩
  (repeat (first | with_reducible exact Below.refl _ _ | with_reducible assumption | with_reducible refine balloc ?_ _ | with_reducible refine bdrew ?_ | with_reducible refine below_drewN ?_ _ | with_reducible refine bset ?_ ?_ _ | with_reducible exact Nat.le_refl _ | with_reducible refine bsize ?_ | (dsimp only; refine Nat.le_trans ?_ (Nat.le_add_right _ _)) | with_reducible refine Nat.le_trans ?_ (Nat.le_add_right _ _) | (with_reducible refine bstep ?_ (by assumption))))

/-- jeFar. -/
theorem far_back (n d : Int) (ha : amB n d = true) (h11 : n ≤ 11 * d) (w : World) :
    Calls Try.prog 54 #[.agg #[.int .i64 n, .int .i64 d], .bool true] w fun e w' => e = .returned (.tuple #[.agg #[.int .i64 (lowN (fwN 2 n d) (fwD 2 n d)), .int .i64 (lowD (fwN 2 n d) (fwD 2 n d))], .bool (lowB (fwN 2 n d) (fwD 2 n d))]) ∧ Below w.heap.size w w' := by
  obtain ⟨a1, a2, a3, a4⟩ := am_of n d ha
  have q1 : 0 ≤ n / d := Int.ediv_nonneg a1 (by omega)
  have q2 : n / d ≤ 11 := Int.le_of_lt_add_one (Int.ediv_lt_of_lt_mul (by omega) (by rw [Int.add_mul]; omega))
  obtain ⟨t, ht⟩ : ∃ t : Nat, n / d = t := ⟨(n / d).toNat, by omega⟩
  obtain ⟨r0, r1, r2⟩ := rem_bd n d ha
  unfold fwN fwD
  have e : (n / d).toNat = t := by omega
  rw [e]
  by_cases hr : n % d = 0
  · have hd := am_rem n d ha
    rw [hr] at hd
    have hd1 := ((amB_iff 0 d).1 hd).2.2.2.2
    have hd2 : d = 1 := by unfold gi at hd1; rw [Int.gcd_zero_left] at hd1; omega
    subst hd2
    have hn : n = t := by rw [← ht, Int.ediv_one]
    subst hn
    rw [hr, (fa_whole_back t (by omega)).1, (fa_whole_back t (by omega)).2.1, (fa_whole_back t (by omega)).2.2]
    exact far_whole_back t (by omega) w
  · exact far_part_back n d t (n % d) (by omega) ha ht rfl (by omega) w
end Go.Proofs.Ytbhdnocdpincpaa
