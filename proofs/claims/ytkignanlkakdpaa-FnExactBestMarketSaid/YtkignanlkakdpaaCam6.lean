/- Camels: the contract of OneTrip, of the model. -/
import Derived.Test.YtkignanlkakdpaaCamN
namespace Go.Proofs.Ytkignanlkakdpaa
open Go.RowKit
set_option maxRecDepth 100000
set_option linter.unusedVariables false
set_option linter.unusedSimpArgs false

theorem no_low (k : Bool) (n d : Int) (h : k = false) : twoN k n d = 0 ∧ twoD k n d = 0 ∧ twoB k n d = false := by subst h; exact two_no n d
set_option maxHeartbeats 1600000 in
theorem oneTrip_spec (L E n d p q : Int) (bn : -9223372036854775808 ≤ n ∧ n ≤ 9223372036854775807) (bd : -9223372036854775808 ≤ d ∧ d ≤ 9223372036854775807) (bp : -9223372036854775808 ≤ p ∧ p ≤ 9223372036854775807) (bq : -9223372036854775808 ≤ q ∧ q ≤ 9223372036854775807) (w : World) :
    Calls Try.prog 38 #[.agg #[.int .i64 L, .int .i64 E], .agg #[.int .i64 n, .int .i64 d], .agg #[.int .i64 p, .int .i64 q]] w fun e w' => e = .returned (.tuple #[.agg #[.int .i64 (twoN (oneTripK L E n d p q) (oneTripX L E n d p q) (oneTripM L E n d p q)), .int .i64 (twoD (oneTripK L E n d p q) (oneTripX L E n d p q) (oneTripM L E n d p q))], .bool (twoB (oneTripK L E n d p q) (oneTripX L E n d p q) (oneTripM L E n d p q))]) ∧ Below w.heap.size w w' := by
  have HA := Lib.hid (fun W => ask_spec L E n d bn bd W)
  have HP := Lib.hid (fun W => place_spec p q bp bq W)
  cases h1 : askB L E n d
  · obtain ⟨e1, e2, e3⟩ := no_low (oneTripK L E n d p q) (oneTripX L E n d p q) (oneTripM L E n d p q) (by simp [oneTripK, h1])
    rw [e1, e2, e3]
    rw [h1] at HA
    clear e1 e2 e3 h1
    go_enter Try.func38, Try.ntmps38
    (go_wp2_with fail; refine (HA.out _).mono ?_; rintro e w1 ⟨rfl, hb1⟩; have ha1 := hb1; obtain ⟨kc1, kf1, kz1, ky1, kx1, kv1, ku1⟩ := bcell hb1)
    go_wp2
    refine bodyPost_ret (v := .tuple #[.agg #[.int .i64 0, .int .i64 0], .bool false]) (by simp only [results, Try.results38]; go_simp) rfl ⟨rfl, ?_⟩
    (repeat (first | with_reducible exact Below.refl _ _ | with_reducible assumption | with_reducible refine balloc ?_ _ | with_reducible refine bdrew ?_ | with_reducible refine below_drewN ?_ _ | with_reducible refine bset ?_ ?_ _ | with_reducible exact Nat.le_refl _ | with_reducible refine bsize ?_ | (dsimp only; refine Nat.le_trans ?_ (Nat.le_add_right _ _)) | with_reducible refine Nat.le_trans ?_ (Nat.le_add_right _ _) | (with_reducible refine bstep ?_ (by assumption))))
  · cases h2 : plB p q
    · obtain ⟨e1, e2, e3⟩ := no_low (oneTripK L E n d p q) (oneTripX L E n d p q) (oneTripM L E n d p q) (by simp [oneTripK, h2])
      rw [e1, e2, e3]
      rw [h1] at HA
      rw [h2] at HP
      clear e1 e2 e3 h1 h2
      go_enter Try.func38, Try.ntmps38
      (go_wp2_with fail; refine (HA.out _).mono ?_; rintro e w1 ⟨rfl, hb1⟩; have ha1 := hb1; obtain ⟨kc1, kf1, kz1, ky1, kx1, kv1, ku1⟩ := bcell hb1)
      (go_wp2_with fail; refine (HP.out _).mono ?_; rintro e w2 ⟨rfl, hb2⟩; have ha2 := bjoin ha1 hb2 (by (repeat (first | with_reducible exact Below.refl _ _ | with_reducible assumption | with_reducible refine balloc ?_ _ | with_reducible refine bdrew ?_ | with_reducible refine below_drewN ?_ _ | with_reducible refine bset ?_ ?_ _ | with_reducible exact Nat.le_refl _ | with_reducible refine bsize ?_ | (dsimp only; refine Nat.le_trans ?_ (Nat.le_add_right _ _)) | with_reducible refine Nat.le_trans ?_ (Nat.le_add_right _ _) | (with_reducible refine bstep ?_ (by assumption))))); obtain ⟨kc2, kf2, kz2, ky2, kx2, kv2, ku2⟩ := bcell hb2; obtain ⟨jc2, jf2, jz2, jy2, jx2, jv2, ju2⟩ := bcell ha2)
      go_wp2
      refine bodyPost_ret (v := .tuple #[.agg #[.int .i64 0, .int .i64 0], .bool false]) (by simp only [results, Try.results38]; go_simp) rfl ⟨rfl, ?_⟩
      (repeat (first | with_reducible exact Below.refl _ _ | with_reducible assumption | with_reducible refine balloc ?_ _ | with_reducible refine bdrew ?_ | with_reducible refine below_drewN ?_ _ | with_reducible refine bset ?_ ?_ _ | with_reducible exact Nat.le_refl _ | with_reducible refine bsize ?_ | (dsimp only; refine Nat.le_trans ?_ (Nat.le_add_right _ _)) | with_reducible refine Nat.le_trans ?_ (Nat.le_add_right _ _) | (with_reducible refine bstep ?_ (by assumption))))
    · have hk : oneTripK L E n d p q = true := by simp [oneTripK, h1, h2]
      rw [hk, (two_yes _ _).1, (two_yes _ _).2.1, (two_yes _ _).2.2]
      obtain ⟨i1, i2, i3, i4⟩ := askB_yes L E n d h1
      obtain ⟨i5, i6⟩ := plB_yes p q h2
      obtain ⟨j1, j2, j3, j4⟩ := camB_yes L E i1
      obtain ⟨x1, x2, x3, x4⟩ := am_of n d i2
      obtain ⟨y1, y2, y3, y4⟩ := am_of p q i5
      have e6 : 6 * L * d = 6 * (L * d) := Int.mul_assoc _ _ _
      have hlu := mul_le2 L d 12 12 (by omega) j2 (by omega) i3
      have hl := ot_low L E n d p q j1 x3 y3
      have hA : 0 ≤ otA L n d ∧ otA L n d ≤ 1000 ∧ 1 ≤ otB L n d ∧ otB L n d ≤ 12 := by unfold otA otB; split <;> omega
      have HO := Lib.hid (fun W => once_spec (otA L n d) (otB L n d) 0 1 E p q (once_bd _ _ _ _ _ _ _ hA.1 hA.2.1 hA.2.2.1 hA.2.2.2 (by omega) (by omega) (by omega) (by omega) (by omega) (by omega) y1 y2 y3 i6) W)
      have e7 : otA L n d * 1 + E * 0 * otB L n d = otA L n d := by rw [Int.mul_zero, Int.zero_mul, Int.mul_one, Int.add_zero]
      have e8 : 1 * otB L n d = otB L n d := Int.one_mul _
      rw [e7, e8] at HO
      have hol := once_low (otA L n d) (otB L n d) q (E * p) hA.2.2.1 y3
      have hbd := once_bd (otA L n d) (otB L n d) 0 1 E p q hA.1 hA.2.1 hA.2.2.1 hA.2.2.2 (by omega) (by omega) (by omega) (by omega) (by omega) (by omega) y1 y2 y3 i6
      obtain ⟨_, _, b1, _, b2, b3, b4⟩ := hbd
      rw [e7, e8] at b1 b2 b3 b4
      obtain ⟨r1, r2, _, _, _⟩ := rd_bd (otA L n d) (otB L n d) hA.2.2.1
      have b5 := Int.mul_pos (show 0 < rdD (otA L n d) (otB L n d) by omega) (show 0 < q by omega)
      have HM := Lib.hid (fun W => made_spec (rdN (otA L n d) (otB L n d) * q - E * p * rdD (otA L n d) (otB L n d)) (rdD (otA L n d) (otB L n d) * q) (by omega) b4.2 b3.2 W)
      rw [hol.1, hol.2.1, hol.2.2, hl.1, hl.2.1, hl.2.2] at HM
      rw [h1] at HA
      rw [h2] at HP
      generalize oneTripX L E n d p q = X at *
      generalize oneTripM L E n d p q = M at *
      generalize rdN (otA L n d) (otB L n d) * q - E * p * rdD (otA L n d) (otB L n d) = Y at *
      generalize rdD (otA L n d) (otB L n d) * q = Z at *
      clear hol hl e7 e8 b1 b2 b3 b4 b5 r1 r2 hk h1 h2 i1 i2 i5 hA
      unfold otA otB at HO
      by_cases hc : L * d < n
      all_goals
        simp only [hc, if_true, if_false] at HO
        clear e6
        go_enter Try.func38, Try.ntmps38
        (go_wp2_with fail; refine (HA.out _).mono ?_; rintro e w1 ⟨rfl, hb1⟩; have ha1 := hb1; obtain ⟨kc1, kf1, kz1, ky1, kx1, kv1, ku1⟩ := bcell hb1)
        have r1 : w1.cell? ⟨w.heap.size + 1 + 1 + 1, 0, none⟩ = some (.int .i64 0) := (by rw [kc1 (w.heap.size + 1 + 1 + 1) _ (by first | (simp; done) | (simp; omega))]; first | (simp; done) | (simp [go_sem]; done)); have r2 : w1.cell? ⟨w.heap.size + 1 + 1 + 1, 1, none⟩ = some (.int .i64 0) := (by rw [kc1 (w.heap.size + 1 + 1 + 1) _ (by first | (simp; done) | (simp; omega))]; first | (simp; done) | (simp [go_sem]; done)); have r3 : w1.frozen? ⟨w.heap.size + 1 + 1 + 1, 0, none⟩ = false := (by rw [kf1 (w.heap.size + 1 + 1 + 1) _ (by first | (simp; done) | (simp; omega))]; first | (simp; done) | (simp [go_sem]; done)); have r4 : w1.frozen? ⟨w.heap.size + 1 + 1 + 1, 1, none⟩ = false := (by rw [kf1 (w.heap.size + 1 + 1 + 1) _ (by first | (simp; done) | (simp; omega))]; first | (simp; done) | (simp [go_sem]; done)); have rz : w.heap.size + 1 + 1 + 1 < w1.heap.size := kz1 (w.heap.size + 1 + 1 + 1) (by first | (simp; done) | (simp; omega))
        (go_wp2_with fail; refine (HP.out _).mono ?_; rintro e w2 ⟨rfl, hb2⟩; have ha2 := bjoin ha1 hb2 (by (repeat (first | with_reducible exact Below.refl _ _ | with_reducible assumption | with_reducible refine balloc ?_ _ | with_reducible refine bdrew ?_ | with_reducible refine below_drewN ?_ _ | with_reducible refine bset ?_ ?_ _ | with_reducible exact Nat.le_refl _ | with_reducible refine bsize ?_ | (dsimp only; refine Nat.le_trans ?_ (Nat.le_add_right _ _)) | with_reducible refine Nat.le_trans ?_ (Nat.le_add_right _ _) | (with_reducible refine bstep ?_ (by assumption))))); obtain ⟨kc2, kf2, kz2, ky2, kx2, kv2, ku2⟩ := bcell hb2; obtain ⟨jc2, jf2, jz2, jy2, jx2, jv2, ju2⟩ := bcell ha2)
        (have rb : Below w1.heap.size w1 w2 := bstep (by (repeat (first | with_reducible exact Below.refl _ _ | with_reducible assumption | with_reducible refine balloc ?_ _ | with_reducible refine bdrew ?_ | with_reducible refine below_drewN ?_ _ | with_reducible refine bset ?_ ?_ _ | with_reducible exact Nat.le_refl _ | with_reducible refine bsize ?_ | (dsimp only; refine Nat.le_trans ?_ (Nat.le_add_right _ _)) | with_reducible refine Nat.le_trans ?_ (Nat.le_add_right _ _) | (with_reducible refine bstep ?_ (by assumption))))) hb2); replace r1 := keepa rb rz r1; replace r2 := keepa rb rz r2; replace r3 := keepz rb rz r3; replace r4 := keepz rb rz r4; replace rz := Nat.lt_of_lt_of_le rz rb.size; clear rb
        (go_wp2_with fail; refine (HO.out _).mono ?_; rintro e w3 ⟨rfl, hb3⟩; (have ha3 : Below w.heap.size w w3 := by (repeat (first | with_reducible exact Below.refl _ _ | with_reducible assumption | with_reducible refine balloc ?_ _ | with_reducible refine bdrew ?_ | with_reducible refine below_drewN ?_ _ | with_reducible refine bset ?_ ?_ _ | with_reducible exact Nat.le_refl _ | with_reducible refine bsize ?_ | (dsimp only; refine Nat.le_trans ?_ (Nat.le_add_right _ _)) | with_reducible refine Nat.le_trans ?_ (Nat.le_add_right _ _) | (with_reducible refine bstep ?_ (by assumption))))); obtain ⟨kc3, kf3, kz3, ky3, kx3, kv3, ku3⟩ := bcell hb3)
        (have rb : Below w2.heap.size w2 w3 := bstep (by (repeat (first | with_reducible exact Below.refl _ _ | with_reducible assumption | with_reducible refine balloc ?_ _ | with_reducible refine bdrew ?_ | with_reducible refine below_drewN ?_ _ | with_reducible refine bset ?_ ?_ _ | with_reducible exact Nat.le_refl _ | with_reducible refine bsize ?_ | (dsimp only; refine Nat.le_trans ?_ (Nat.le_add_right _ _)) | with_reducible refine Nat.le_trans ?_ (Nat.le_add_right _ _) | (with_reducible refine bstep ?_ (by assumption))))) hb3); replace r1 := keepa rb rz r1; replace r2 := keepa rb rz r2; replace r3 := keepz rb rz r3; replace r4 := keepz rb rz r4; replace rz := Nat.lt_of_lt_of_le rz rb.size; clear rb
        (go_wp2_with fail; refine (HM.out _).mono ?_; rintro e w4 ⟨rfl, hb4⟩; (have ha4 : Below w.heap.size w w4 := by (repeat (first | with_reducible exact Below.refl _ _ | with_reducible assumption | with_reducible refine balloc ?_ _ | with_reducible refine bdrew ?_ | with_reducible refine below_drewN ?_ _ | with_reducible refine bset ?_ ?_ _ | with_reducible exact Nat.le_refl _ | with_reducible refine bsize ?_ | (dsimp only; refine Nat.le_trans ?_ (Nat.le_add_right _ _)) | with_reducible refine Nat.le_trans ?_ (Nat.le_add_right _ _) | (with_reducible refine bstep ?_ (by assumption))))); obtain ⟨kc4, kf4, kz4, ky4, kx4, kv4, ku4⟩ := bcell hb4)
        (have rb : Below w3.heap.size w3 w4 := bstep (by (repeat (first | with_reducible exact Below.refl _ _ | with_reducible assumption | with_reducible refine balloc ?_ _ | with_reducible refine bdrew ?_ | with_reducible refine below_drewN ?_ _ | with_reducible refine bset ?_ ?_ _ | with_reducible exact Nat.le_refl _ | with_reducible refine bsize ?_ | (dsimp only; refine Nat.le_trans ?_ (Nat.le_add_right _ _)) | with_reducible refine Nat.le_trans ?_ (Nat.le_add_right _ _) | (with_reducible refine bstep ?_ (by assumption))))) hb4); replace r1 := keepa rb rz r1; replace r2 := keepa rb rz r2; replace r3 := keepz rb rz r3; replace r4 := keepz rb rz r4; replace rz := Nat.lt_of_lt_of_le rz rb.size; clear rb
        go_wp2
        refine bodyPost_ret (v := .tuple #[.agg #[.int .i64 (lowN (X) (M)), .int .i64 (lowD (X) (M))], .bool (lowB (X) (M))]) (by simp only [results, Try.results38]; go_simp) rfl ⟨rfl, ?_⟩
        (repeat (first | with_reducible exact Below.refl _ _ | with_reducible assumption | with_reducible refine balloc ?_ _ | with_reducible refine bdrew ?_ | with_reducible refine below_drewN ?_ _ | with_reducible refine bset ?_ ?_ _ | with_reducible exact Nat.le_refl _ | with_reducible refine bsize ?_ | (dsimp only; refine Nat.le_trans ?_ (Nat.le_add_right _ _)) | with_reducible refine Nat.le_trans ?_ (Nat.le_add_right _ _) | (with_reducible refine bstep ?_ (by assumption))))
end Go.Proofs.Ytkignanlkakdpaa
