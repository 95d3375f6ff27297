/- The contract of the model's jeNeed (out), and the law FnExactFuelOut, for every amount (also what is none): the program answers as the model. No condition. -/
import Derived.Test.YtbhdnocdpincpaaLawBase
import Derived.Test.YtbhdnocdpincpaaJeepS2
import Derived.Test.YtbhdnocdpincpaaNeedM
namespace Go.Proofs.Ytbhdnocdpincpaa
open Go.ChangeShapes Go.WideShapes Go.ChangeAt Go.RowKit Go.Joins
set_option maxRecDepth 100000
set_option linter.unusedVariables false
set_option linter.unusedSimpArgs false

theorem drvOut_is (k : Nat) : drv 1 k = (2 * (k : Int) + 1) := by unfold drv; omega
set_option maxHeartbeats 400000 in
theorem needOut_none (n d : Int) (ha : amB n d = false) (w : World) :
    Calls Try.prog 43 #[.agg #[.int .i64 n, .int .i64 d], .bool false] w fun e w' => e = .returned (.tuple #[.agg #[.int .i64 (lfX 1 n d), .int .i64 (lfY 1 n d)], .bool (lfB 1 n d)]) ∧ Below w.heap.size w w' := by
  obtain ⟨e1, e2, e3⟩ := need_none 1 n d ha
  rw [e1, e2, e3]; clear e1 e2 e3
  go_enter Try.func43, Try.ntmps43
  (go_wp2_with fail; refine (good_spec _ _ _).mono ?_; rintro e w1 ⟨rfl, hb1⟩; rw [ha]; have ha1 := hb1; obtain ⟨kc1, kf1, kz1, ky1, kx1, kv1, ku1⟩ := bcell hb1)
  go_wp2
  refine bodyPost_ret (v := .tuple #[.agg #[.int .i64 0, .int .i64 0], .bool false]) (by simp only [results, Try.results43]; go_simp) rfl ⟨rfl, ?_⟩
  (repeat (first | with_reducible exact Below.refl _ _ | with_reducible assumption | with_reducible refine balloc ?_ _ | with_reducible refine bdrew ?_ | with_reducible refine below_drewN ?_ _ | with_reducible refine bset ?_ ?_ _ | with_reducible exact Nat.le_refl _ | with_reducible refine bsize ?_ | (dsimp only; refine Nat.le_trans ?_ (Nat.le_add_right _ _)) | with_reducible refine Nat.le_trans ?_ (Nat.le_add_right _ _) | (with_reducible refine bstep ?_ (by assumption))))

set_option maxHeartbeats 6400000 in
theorem needOut_spec (n d : Int) (w : World) :
    Calls Try.prog 43 #[.agg #[.int .i64 n, .int .i64 d], .bool false] w fun e w' => e = .returned (.tuple #[.agg #[.int .i64 (lfX 1 n d), .int .i64 (lfY 1 n d)], .bool (lfB 1 n d)]) ∧ Below w.heap.size w w' := by
  cases hq : amB n d
  · exact needOut_none n d hq w
  have hA := Lib.hid hq
  obtain ⟨a1, a2, a3, a4⟩ := am_of n d hq
  go_enter Try.func43, Try.ntmps43
  (go_wp2_with fail; refine (good_spec _ _ _).mono ?_; rintro e w1 ⟨rfl, hb1⟩; rw [hq]; have ha1 := hb1; obtain ⟨kc1, kf1, kz1, ky1, kx1, kv1, ku1⟩ := bcell hb1)
  go_wp2
  go_loopw [6] (fun i wr => ∃ k : Nat, k ≤ 11 ∧ i = .int .i64 k ∧ Hid (leR 1 (min k 10) n d = true) ∧ Hid (k = 11 → (rP 1 10).1 * d < n * (rP 1 10).2) ∧
      wr.cell? ⟨w.heap.size, 0, none⟩ = some (.int .i64 n) ∧ wr.cell? ⟨w.heap.size, 1, none⟩ = some (.int .i64 d) ∧ wr.cell? ⟨w.heap.size + 1, 0, none⟩ = some (.int .i64 0) ∧ wr.cell? ⟨w.heap.size + 1, 1, none⟩ = some (.int .i64 0) ∧
      wr.frozen? ⟨w.heap.size + 1, 0, none⟩ = false ∧ wr.frozen? ⟨w.heap.size + 1, 1, none⟩ = false ∧ wr.frozen? ⟨w.heap.size, 0, none⟩ = false ∧ wr.frozen? ⟨w.heap.size, 1, none⟩ = false ∧ w.heap.size + 1 < wr.heap.size ∧ Below w.heap.size w wr) (fun i _ => 11 - (intOf i).toNat)
  case atStart =>
    refine ⟨0, by omega, rfl, leR_zero 1 n d a1, by intro h; omega, ?_, ?_, ?_, ?_, ?_, ?_, ?_, ?_, ?_, ?_⟩
    all_goals first | ((repeat (first | with_reducible exact Below.refl _ _ | with_reducible assumption | with_reducible refine balloc ?_ _ | with_reducible refine bdrew ?_ | with_reducible refine below_drewN ?_ _ | with_reducible refine bset ?_ ?_ _ | with_reducible exact Nat.le_refl _ | with_reducible refine bsize ?_ | (dsimp only; refine Nat.le_trans ?_ (Nat.le_add_right _ _)) | with_reducible refine Nat.le_trans ?_ (Nat.le_add_right _ _) | (with_reducible refine bstep ?_ (by assumption)))); done) | (simp [go_sem, kc1, kf1]; done) | (exact kz1 _ (by simp)) | (rw [kc1 _ _ (by simp)]; simp [go_sem]; done) | (rw [kf1 _ _ (by simp)]; simp [go_sem]; done)
  case round =>
    obtain ⟨k, hk, rfl, hle, hlast, c1, c2, r1, r2, r3, r4, r5, r6, hs, hbel⟩ := hrel
    have hs0 : w.heap.size < wr.heap.size := by omega
    by_cases hk11 : k = 11
    · have HE := Lib.hid (need_far 1 n d (hlast.out hk11))
      clear hle hlast
      subst hk11
      go_wp2
      rw [HE.out.1, HE.out.2.1, HE.out.2.2]
      refine bodyPost_ret (v := .tuple #[.agg #[.int .i64 0, .int .i64 0], .bool false]) (by simp only [results, Try.results43]; go_simp) rfl ⟨rfl, ?_⟩
      (repeat (first | with_reducible exact Below.refl _ _ | with_reducible assumption | with_reducible refine balloc ?_ _ | with_reducible refine bdrew ?_ | with_reducible refine below_drewN ?_ _ | with_reducible refine bset ?_ ?_ _ | with_reducible exact Nat.le_refl _ | with_reducible refine bsize ?_ | (dsimp only; refine Nat.le_trans ?_ (Nat.le_add_right _ _)) | with_reducible refine Nat.le_trans ?_ (Nat.le_add_right _ _) | (with_reducible refine bstep ?_ (by assumption))))
    · have hk10 : k ≤ 10 := by omega
      have hle0 := hle.out
      rw [Nat.min_eq_left hk10] at hle0
      have hfar := fun W => far_whole_out k (by omega) W
      obtain ⟨p1, p2, p3, p4, pam⟩ := rp_bd 1 k (Or.inl rfl) (by omega)
      have hcmp := fun W => cmp_spec (rP 1 k).1 (rP 1 k).2 n d (am_of _ _ pam) (am_of n d hA.out) W
      have HF := Lib.hid hfar
      by_cases he : (rP 1 k).1 * d = n * (rP 1 k).2
      · have HE := Lib.hid (need_eqk 1 k n d (Or.inl rfl) hk10 hA.out he)
        have hsg : sgI ((rP 1 k).1 * d - n * (rP 1 k).2) = 0 := by unfold sgI; rw [if_neg (by omega), if_neg (by omega)]
        rw [hsg] at hcmp
        have HC := Lib.hid hcmp
        clear hfar hcmp hle hle0 pam hsg he
        generalize (rP 1 k).1 = RN at *
        generalize (rP 1 k).2 = RD at *
        go_wp2_with fail
        refine (whole_is_spec _ _).mono ?_
        rintro e w2 ⟨rfl, rfl⟩
        (go_wp2_with fail; refine (HF.out _).mono ?_; rintro e w3 ⟨rfl, hb3⟩; (have ha3 : Below w.heap.size w w3 := by (repeat (first | with_reducible exact Below.refl _ _ | with_reducible assumption | with_reducible refine balloc ?_ _ | with_reducible refine bdrew ?_ | with_reducible refine below_drewN ?_ _ | with_reducible refine bset ?_ ?_ _ | with_reducible exact Nat.le_refl _ | with_reducible refine bsize ?_ | (dsimp only; refine Nat.le_trans ?_ (Nat.le_add_right _ _)) | with_reducible refine Nat.le_trans ?_ (Nat.le_add_right _ _) | (with_reducible refine bstep ?_ (by assumption))))); obtain ⟨kc3, kf3, kz3, ky3, kx3, kv3, ku3⟩ := bcell hb3)
        have q3_h_0 : w3.cell? ⟨w.heap.size, 0, none⟩ = some (.int .i64 n) := by rw [kc3 _ _ (by first | assumption | (simp; done) | (simp; omega) | omega)]; simp [go_sem, c1, c2, r1, r2, r3, r4, r5, r6, hs, hs0]
        have r3_h_0 : w3.frozen? ⟨w.heap.size, 0, none⟩ = false := by rw [kf3 _ _ (by first | assumption | (simp; done) | (simp; omega) | omega)]; simp [go_sem, c1, c2, r1, r2, r3, r4, r5, r6, hs, hs0]
        have q3_h_1 : w3.cell? ⟨w.heap.size, 1, none⟩ = some (.int .i64 d) := by rw [kc3 _ _ (by first | assumption | (simp; done) | (simp; omega) | omega)]; simp [go_sem, c1, c2, r1, r2, r3, r4, r5, r6, hs, hs0]
        have r3_h_1 : w3.frozen? ⟨w.heap.size, 1, none⟩ = false := by rw [kf3 _ _ (by first | assumption | (simp; done) | (simp; omega) | omega)]; simp [go_sem, c1, c2, r1, r2, r3, r4, r5, r6, hs, hs0]
        have z3_h : w.heap.size < w3.heap.size := kz3 _ (by first | assumption | (simp; done) | (simp; omega) | omega)
        have q3_h_1_0 : w3.cell? ⟨w.heap.size + 1, 0, none⟩ = some (.int .i64 0) := by rw [kc3 _ _ (by first | assumption | (simp; done) | (simp; omega) | omega)]; simp [go_sem, c1, c2, r1, r2, r3, r4, r5, r6, hs, hs0]
        have r3_h_1_0 : w3.frozen? ⟨w.heap.size + 1, 0, none⟩ = false := by rw [kf3 _ _ (by first | assumption | (simp; done) | (simp; omega) | omega)]; simp [go_sem, c1, c2, r1, r2, r3, r4, r5, r6, hs, hs0]
        have q3_h_1_1 : w3.cell? ⟨w.heap.size + 1, 1, none⟩ = some (.int .i64 0) := by rw [kc3 _ _ (by first | assumption | (simp; done) | (simp; omega) | omega)]; simp [go_sem, c1, c2, r1, r2, r3, r4, r5, r6, hs, hs0]
        have r3_h_1_1 : w3.frozen? ⟨w.heap.size + 1, 1, none⟩ = false := by rw [kf3 _ _ (by first | assumption | (simp; done) | (simp; omega) | omega)]; simp [go_sem, c1, c2, r1, r2, r3, r4, r5, r6, hs, hs0]
        have z3_h_1 : w.heap.size + 1 < w3.heap.size := kz3 _ (by first | assumption | (simp; done) | (simp; omega) | omega)
        clear kc3 kf3 kz3 ky3 kx3 kv3 ku3 hb3 c1 c2 r1 r2 r3 r4 r5 r6 hs hs0
        (go_wp2_with fail; refine (HC.out _).mono ?_; rintro e w4 ⟨rfl, hb4⟩; (have ha4 : Below w.heap.size w w4 := by (repeat (first | with_reducible exact Below.refl _ _ | with_reducible assumption | with_reducible refine balloc ?_ _ | with_reducible refine bdrew ?_ | with_reducible refine below_drewN ?_ _ | with_reducible refine bset ?_ ?_ _ | with_reducible exact Nat.le_refl _ | with_reducible refine bsize ?_ | (dsimp only; refine Nat.le_trans ?_ (Nat.le_add_right _ _)) | with_reducible refine Nat.le_trans ?_ (Nat.le_add_right _ _) | (with_reducible refine bstep ?_ (by assumption))))); obtain ⟨kc4, kf4, kz4, ky4, kx4, kv4, ku4⟩ := bcell hb4)
        have q4_h_0 : w4.cell? ⟨w.heap.size, 0, none⟩ = some (.int .i64 n) := by rw [kc4 _ _ (by first | assumption | (simp; done) | (simp; omega) | omega)]; simp [go_sem, q3_h_0, r3_h_0, q3_h_1, r3_h_1, z3_h, q3_h_1_0, r3_h_1_0, q3_h_1_1, r3_h_1_1, z3_h_1]
        have r4_h_0 : w4.frozen? ⟨w.heap.size, 0, none⟩ = false := by rw [kf4 _ _ (by first | assumption | (simp; done) | (simp; omega) | omega)]; simp [go_sem, q3_h_0, r3_h_0, q3_h_1, r3_h_1, z3_h, q3_h_1_0, r3_h_1_0, q3_h_1_1, r3_h_1_1, z3_h_1]
        have q4_h_1 : w4.cell? ⟨w.heap.size, 1, none⟩ = some (.int .i64 d) := by rw [kc4 _ _ (by first | assumption | (simp; done) | (simp; omega) | omega)]; simp [go_sem, q3_h_0, r3_h_0, q3_h_1, r3_h_1, z3_h, q3_h_1_0, r3_h_1_0, q3_h_1_1, r3_h_1_1, z3_h_1]
        have r4_h_1 : w4.frozen? ⟨w.heap.size, 1, none⟩ = false := by rw [kf4 _ _ (by first | assumption | (simp; done) | (simp; omega) | omega)]; simp [go_sem, q3_h_0, r3_h_0, q3_h_1, r3_h_1, z3_h, q3_h_1_0, r3_h_1_0, q3_h_1_1, r3_h_1_1, z3_h_1]
        have z4_h : w.heap.size < w4.heap.size := kz4 _ (by first | assumption | (simp; done) | (simp; omega) | omega)
        have q4_h_1_0 : w4.cell? ⟨w.heap.size + 1, 0, none⟩ = some (.int .i64 0) := by rw [kc4 _ _ (by first | assumption | (simp; done) | (simp; omega) | omega)]; simp [go_sem, q3_h_0, r3_h_0, q3_h_1, r3_h_1, z3_h, q3_h_1_0, r3_h_1_0, q3_h_1_1, r3_h_1_1, z3_h_1]
        have r4_h_1_0 : w4.frozen? ⟨w.heap.size + 1, 0, none⟩ = false := by rw [kf4 _ _ (by first | assumption | (simp; done) | (simp; omega) | omega)]; simp [go_sem, q3_h_0, r3_h_0, q3_h_1, r3_h_1, z3_h, q3_h_1_0, r3_h_1_0, q3_h_1_1, r3_h_1_1, z3_h_1]
        have q4_h_1_1 : w4.cell? ⟨w.heap.size + 1, 1, none⟩ = some (.int .i64 0) := by rw [kc4 _ _ (by first | assumption | (simp; done) | (simp; omega) | omega)]; simp [go_sem, q3_h_0, r3_h_0, q3_h_1, r3_h_1, z3_h, q3_h_1_0, r3_h_1_0, q3_h_1_1, r3_h_1_1, z3_h_1]
        have r4_h_1_1 : w4.frozen? ⟨w.heap.size + 1, 1, none⟩ = false := by rw [kf4 _ _ (by first | assumption | (simp; done) | (simp; omega) | omega)]; simp [go_sem, q3_h_0, r3_h_0, q3_h_1, r3_h_1, z3_h, q3_h_1_0, r3_h_1_0, q3_h_1_1, r3_h_1_1, z3_h_1]
        have z4_h_1 : w.heap.size + 1 < w4.heap.size := kz4 _ (by first | assumption | (simp; done) | (simp; omega) | omega)
        clear kc4 kf4 kz4 ky4 kx4 kv4 ku4 hb4 q3_h_0 r3_h_0 q3_h_1 r3_h_1 z3_h q3_h_1_0 r3_h_1_0 q3_h_1_1 r3_h_1_1 z3_h_1
        go_wp2_with fail
        refine (whole_is_spec _ _).mono ?_
        rintro e w5 ⟨rfl, rfl⟩
        go_wp2
        rw [HE.out.1, HE.out.2.1, HE.out.2.2]
        refine bodyPost_ret (v := .tuple #[.agg #[.int .i64 k, .int .i64 1], .bool true]) (by simp only [results, Try.results43]; go_simp) rfl ⟨rfl, ?_⟩
        (repeat (first | with_reducible exact Below.refl _ _ | with_reducible assumption | with_reducible refine balloc ?_ _ | with_reducible refine bdrew ?_ | with_reducible refine below_drewN ?_ _ | with_reducible refine bset ?_ ?_ _ | with_reducible exact Nat.le_refl _ | with_reducible refine bsize ?_ | (dsimp only; refine Nat.le_trans ?_ (Nat.le_add_right _ _)) | with_reducible refine Nat.le_trans ?_ (Nat.le_add_right _ _) | (with_reducible refine bstep ?_ (by assumption))))
      · have hlt : (rP 1 k).1 * d < n * (rP 1 k).2 := by rw [leR_iff] at hle0; omega
        have hsg : sgI ((rP 1 k).1 * d - n * (rP 1 k).2) = -1 := by unfold sgI; rw [if_neg (by omega), if_pos (by omega)]
        rw [hsg] at hcmp
        have HC := Lib.hid hcmp
        by_cases hk9 : k = 10
        · have hnle : Hid (leR 1 (min (k + 1) 10) n d = true) := by
            have : min (k + 1) 10 = 10 := by omega
            show leR 1 (min (k + 1) 10) n d = true
            rw [this, ← hk9]; exact hle0
          have hnlast : Hid (k + 1 = 11 → (rP 1 10).1 * d < n * (rP 1 10).2) := by
            intro _; rw [← hk9]; exact hlt
          have hk9' : ¬ (k : Int) < 10 := by omega
          have hfar2 := fun W => far_whole_out (k + 1) (by omega) W
          have ek : ((k + 1 : Nat) : Int) = (k : Int) + 1 := by omega
          rw [ek] at hfar2
          have HF2 := Lib.hid hfar2
          clear hfar2 ek
          clear hcmp hle hle0 pam hsg he hfar hlt hk9
          generalize (rP 1 k).1 = RN at *
          generalize (rP 1 k).2 = RD at *
          go_wp2_with fail
          refine (whole_is_spec _ _).mono ?_
          rintro e w2 ⟨rfl, rfl⟩
          (go_wp2_with fail; refine (HF.out _).mono ?_; rintro e w3 ⟨rfl, hb3⟩; (have ha3 : Below w.heap.size w w3 := by (repeat (first | with_reducible exact Below.refl _ _ | with_reducible assumption | with_reducible refine balloc ?_ _ | with_reducible refine bdrew ?_ | with_reducible refine below_drewN ?_ _ | with_reducible refine bset ?_ ?_ _ | with_reducible exact Nat.le_refl _ | with_reducible refine bsize ?_ | (dsimp only; refine Nat.le_trans ?_ (Nat.le_add_right _ _)) | with_reducible refine Nat.le_trans ?_ (Nat.le_add_right _ _) | (with_reducible refine bstep ?_ (by assumption))))); obtain ⟨kc3, kf3, kz3, ky3, kx3, kv3, ku3⟩ := bcell hb3)
          have q3_h_0 : w3.cell? ⟨w.heap.size, 0, none⟩ = some (.int .i64 n) := by rw [kc3 _ _ (by first | assumption | (simp; done) | (simp; omega) | omega)]; simp [go_sem, c1, c2, r1, r2, r3, r4, r5, r6, hs, hs0]
          have r3_h_0 : w3.frozen? ⟨w.heap.size, 0, none⟩ = false := by rw [kf3 _ _ (by first | assumption | (simp; done) | (simp; omega) | omega)]; simp [go_sem, c1, c2, r1, r2, r3, r4, r5, r6, hs, hs0]
          have q3_h_1 : w3.cell? ⟨w.heap.size, 1, none⟩ = some (.int .i64 d) := by rw [kc3 _ _ (by first | assumption | (simp; done) | (simp; omega) | omega)]; simp [go_sem, c1, c2, r1, r2, r3, r4, r5, r6, hs, hs0]
          have r3_h_1 : w3.frozen? ⟨w.heap.size, 1, none⟩ = false := by rw [kf3 _ _ (by first | assumption | (simp; done) | (simp; omega) | omega)]; simp [go_sem, c1, c2, r1, r2, r3, r4, r5, r6, hs, hs0]
          have z3_h : w.heap.size < w3.heap.size := kz3 _ (by first | assumption | (simp; done) | (simp; omega) | omega)
          have q3_h_1_0 : w3.cell? ⟨w.heap.size + 1, 0, none⟩ = some (.int .i64 0) := by rw [kc3 _ _ (by first | assumption | (simp; done) | (simp; omega) | omega)]; simp [go_sem, c1, c2, r1, r2, r3, r4, r5, r6, hs, hs0]
          have r3_h_1_0 : w3.frozen? ⟨w.heap.size + 1, 0, none⟩ = false := by rw [kf3 _ _ (by first | assumption | (simp; done) | (simp; omega) | omega)]; simp [go_sem, c1, c2, r1, r2, r3, r4, r5, r6, hs, hs0]
          have q3_h_1_1 : w3.cell? ⟨w.heap.size + 1, 1, none⟩ = some (.int .i64 0) := by rw [kc3 _ _ (by first | assumption | (simp; done) | (simp; omega) | omega)]; simp [go_sem, c1, c2, r1, r2, r3, r4, r5, r6, hs, hs0]
          have r3_h_1_1 : w3.frozen? ⟨w.heap.size + 1, 1, none⟩ = false := by rw [kf3 _ _ (by first | assumption | (simp; done) | (simp; omega) | omega)]; simp [go_sem, c1, c2, r1, r2, r3, r4, r5, r6, hs, hs0]
          have z3_h_1 : w.heap.size + 1 < w3.heap.size := kz3 _ (by first | assumption | (simp; done) | (simp; omega) | omega)
          clear kc3 kf3 kz3 ky3 kx3 kv3 ku3 hb3 c1 c2 r1 r2 r3 r4 r5 r6 hs hs0
          (go_wp2_with fail; refine (HC.out _).mono ?_; rintro e w4 ⟨rfl, hb4⟩; (have ha4 : Below w.heap.size w w4 := by (repeat (first | with_reducible exact Below.refl _ _ | with_reducible assumption | with_reducible refine balloc ?_ _ | with_reducible refine bdrew ?_ | with_reducible refine below_drewN ?_ _ | with_reducible refine bset ?_ ?_ _ | with_reducible exact Nat.le_refl _ | with_reducible refine bsize ?_ | (dsimp only; refine Nat.le_trans ?_ (Nat.le_add_right _ _)) | with_reducible refine Nat.le_trans ?_ (Nat.le_add_right _ _) | (with_reducible refine bstep ?_ (by assumption))))); obtain ⟨kc4, kf4, kz4, ky4, kx4, kv4, ku4⟩ := bcell hb4)
          have q4_h_0 : w4.cell? ⟨w.heap.size, 0, none⟩ = some (.int .i64 n) := by rw [kc4 _ _ (by first | assumption | (simp; done) | (simp; omega) | omega)]; simp [go_sem, q3_h_0, r3_h_0, q3_h_1, r3_h_1, z3_h, q3_h_1_0, r3_h_1_0, q3_h_1_1, r3_h_1_1, z3_h_1]
          have r4_h_0 : w4.frozen? ⟨w.heap.size, 0, none⟩ = false := by rw [kf4 _ _ (by first | assumption | (simp; done) | (simp; omega) | omega)]; simp [go_sem, q3_h_0, r3_h_0, q3_h_1, r3_h_1, z3_h, q3_h_1_0, r3_h_1_0, q3_h_1_1, r3_h_1_1, z3_h_1]
          have q4_h_1 : w4.cell? ⟨w.heap.size, 1, none⟩ = some (.int .i64 d) := by rw [kc4 _ _ (by first | assumption | (simp; done) | (simp; omega) | omega)]; simp [go_sem, q3_h_0, r3_h_0, q3_h_1, r3_h_1, z3_h, q3_h_1_0, r3_h_1_0, q3_h_1_1, r3_h_1_1, z3_h_1]
          have r4_h_1 : w4.frozen? ⟨w.heap.size, 1, none⟩ = false := by rw [kf4 _ _ (by first | assumption | (simp; done) | (simp; omega) | omega)]; simp [go_sem, q3_h_0, r3_h_0, q3_h_1, r3_h_1, z3_h, q3_h_1_0, r3_h_1_0, q3_h_1_1, r3_h_1_1, z3_h_1]
          have z4_h : w.heap.size < w4.heap.size := kz4 _ (by first | assumption | (simp; done) | (simp; omega) | omega)
          have q4_h_1_0 : w4.cell? ⟨w.heap.size + 1, 0, none⟩ = some (.int .i64 0) := by rw [kc4 _ _ (by first | assumption | (simp; done) | (simp; omega) | omega)]; simp [go_sem, q3_h_0, r3_h_0, q3_h_1, r3_h_1, z3_h, q3_h_1_0, r3_h_1_0, q3_h_1_1, r3_h_1_1, z3_h_1]
          have r4_h_1_0 : w4.frozen? ⟨w.heap.size + 1, 0, none⟩ = false := by rw [kf4 _ _ (by first | assumption | (simp; done) | (simp; omega) | omega)]; simp [go_sem, q3_h_0, r3_h_0, q3_h_1, r3_h_1, z3_h, q3_h_1_0, r3_h_1_0, q3_h_1_1, r3_h_1_1, z3_h_1]
          have q4_h_1_1 : w4.cell? ⟨w.heap.size + 1, 1, none⟩ = some (.int .i64 0) := by rw [kc4 _ _ (by first | assumption | (simp; done) | (simp; omega) | omega)]; simp [go_sem, q3_h_0, r3_h_0, q3_h_1, r3_h_1, z3_h, q3_h_1_0, r3_h_1_0, q3_h_1_1, r3_h_1_1, z3_h_1]
          have r4_h_1_1 : w4.frozen? ⟨w.heap.size + 1, 1, none⟩ = false := by rw [kf4 _ _ (by first | assumption | (simp; done) | (simp; omega) | omega)]; simp [go_sem, q3_h_0, r3_h_0, q3_h_1, r3_h_1, z3_h, q3_h_1_0, r3_h_1_0, q3_h_1_1, r3_h_1_1, z3_h_1]
          have z4_h_1 : w.heap.size + 1 < w4.heap.size := kz4 _ (by first | assumption | (simp; done) | (simp; omega) | omega)
          have q4_w3_0 : w4.cell? ⟨w3.heap.size, 0, none⟩ = some (.int .i64 RN) := by rw [kc4 _ _ (by first | assumption | (simp; done) | (simp; omega) | omega)]; simp [go_sem, q3_h_0, r3_h_0, q3_h_1, r3_h_1, z3_h, q3_h_1_0, r3_h_1_0, q3_h_1_1, r3_h_1_1, z3_h_1]
          have r4_w3_0 : w4.frozen? ⟨w3.heap.size, 0, none⟩ = false := by rw [kf4 _ _ (by first | assumption | (simp; done) | (simp; omega) | omega)]; simp [go_sem, q3_h_0, r3_h_0, q3_h_1, r3_h_1, z3_h, q3_h_1_0, r3_h_1_0, q3_h_1_1, r3_h_1_1, z3_h_1]
          have q4_w3_1 : w4.cell? ⟨w3.heap.size, 1, none⟩ = some (.int .i64 RD) := by rw [kc4 _ _ (by first | assumption | (simp; done) | (simp; omega) | omega)]; simp [go_sem, q3_h_0, r3_h_0, q3_h_1, r3_h_1, z3_h, q3_h_1_0, r3_h_1_0, q3_h_1_1, r3_h_1_1, z3_h_1]
          have r4_w3_1 : w4.frozen? ⟨w3.heap.size, 1, none⟩ = false := by rw [kf4 _ _ (by first | assumption | (simp; done) | (simp; omega) | omega)]; simp [go_sem, q3_h_0, r3_h_0, q3_h_1, r3_h_1, z3_h, q3_h_1_0, r3_h_1_0, q3_h_1_1, r3_h_1_1, z3_h_1]
          have z4_w3 : w3.heap.size < w4.heap.size := kz4 _ (by first | assumption | (simp; done) | (simp; omega) | omega)
          clear kc4 kf4 kz4 ky4 kx4 kv4 ku4 hb4 q3_h_0 r3_h_0 q3_h_1 r3_h_1 z3_h q3_h_1_0 r3_h_1_0 q3_h_1_1 r3_h_1_1 z3_h_1
          go_wp2_with fail
          refine (whole_is_spec _ _).mono ?_
          rintro e w5 ⟨rfl, rfl⟩
          (go_wp2_with fail; refine (HF2.out _).mono ?_; rintro e w6 ⟨rfl, hb6⟩; (have ha6 : Below w.heap.size w w6 := by (repeat (first | with_reducible exact Below.refl _ _ | with_reducible assumption | with_reducible refine balloc ?_ _ | with_reducible refine bdrew ?_ | with_reducible refine below_drewN ?_ _ | with_reducible refine bset ?_ ?_ _ | with_reducible exact Nat.le_refl _ | with_reducible refine bsize ?_ | (dsimp only; refine Nat.le_trans ?_ (Nat.le_add_right _ _)) | with_reducible refine Nat.le_trans ?_ (Nat.le_add_right _ _) | (with_reducible refine bstep ?_ (by assumption))))); obtain ⟨kc6, kf6, kz6, ky6, kx6, kv6, ku6⟩ := bcell hb6)
          have q6_h_0 : w6.cell? ⟨w.heap.size, 0, none⟩ = some (.int .i64 n) := by rw [kc6 _ _ (by first | assumption | (simp; done) | (simp; omega) | omega)]; simp [go_sem, q4_h_0, r4_h_0, q4_h_1, r4_h_1, z4_h, q4_h_1_0, r4_h_1_0, q4_h_1_1, r4_h_1_1, z4_h_1, q4_w3_0, r4_w3_0, q4_w3_1, r4_w3_1, z4_w3]
          have r6_h_0 : w6.frozen? ⟨w.heap.size, 0, none⟩ = false := by rw [kf6 _ _ (by first | assumption | (simp; done) | (simp; omega) | omega)]; simp [go_sem, q4_h_0, r4_h_0, q4_h_1, r4_h_1, z4_h, q4_h_1_0, r4_h_1_0, q4_h_1_1, r4_h_1_1, z4_h_1, q4_w3_0, r4_w3_0, q4_w3_1, r4_w3_1, z4_w3]
          have q6_h_1 : w6.cell? ⟨w.heap.size, 1, none⟩ = some (.int .i64 d) := by rw [kc6 _ _ (by first | assumption | (simp; done) | (simp; omega) | omega)]; simp [go_sem, q4_h_0, r4_h_0, q4_h_1, r4_h_1, z4_h, q4_h_1_0, r4_h_1_0, q4_h_1_1, r4_h_1_1, z4_h_1, q4_w3_0, r4_w3_0, q4_w3_1, r4_w3_1, z4_w3]
          have r6_h_1 : w6.frozen? ⟨w.heap.size, 1, none⟩ = false := by rw [kf6 _ _ (by first | assumption | (simp; done) | (simp; omega) | omega)]; simp [go_sem, q4_h_0, r4_h_0, q4_h_1, r4_h_1, z4_h, q4_h_1_0, r4_h_1_0, q4_h_1_1, r4_h_1_1, z4_h_1, q4_w3_0, r4_w3_0, q4_w3_1, r4_w3_1, z4_w3]
          have z6_h : w.heap.size < w6.heap.size := kz6 _ (by first | assumption | (simp; done) | (simp; omega) | omega)
          have q6_h_1_0 : w6.cell? ⟨w.heap.size + 1, 0, none⟩ = some (.int .i64 0) := by rw [kc6 _ _ (by first | assumption | (simp; done) | (simp; omega) | omega)]; simp [go_sem, q4_h_0, r4_h_0, q4_h_1, r4_h_1, z4_h, q4_h_1_0, r4_h_1_0, q4_h_1_1, r4_h_1_1, z4_h_1, q4_w3_0, r4_w3_0, q4_w3_1, r4_w3_1, z4_w3]
          have r6_h_1_0 : w6.frozen? ⟨w.heap.size + 1, 0, none⟩ = false := by rw [kf6 _ _ (by first | assumption | (simp; done) | (simp; omega) | omega)]; simp [go_sem, q4_h_0, r4_h_0, q4_h_1, r4_h_1, z4_h, q4_h_1_0, r4_h_1_0, q4_h_1_1, r4_h_1_1, z4_h_1, q4_w3_0, r4_w3_0, q4_w3_1, r4_w3_1, z4_w3]
          have q6_h_1_1 : w6.cell? ⟨w.heap.size + 1, 1, none⟩ = some (.int .i64 0) := by rw [kc6 _ _ (by first | assumption | (simp; done) | (simp; omega) | omega)]; simp [go_sem, q4_h_0, r4_h_0, q4_h_1, r4_h_1, z4_h, q4_h_1_0, r4_h_1_0, q4_h_1_1, r4_h_1_1, z4_h_1, q4_w3_0, r4_w3_0, q4_w3_1, r4_w3_1, z4_w3]
          have r6_h_1_1 : w6.frozen? ⟨w.heap.size + 1, 1, none⟩ = false := by rw [kf6 _ _ (by first | assumption | (simp; done) | (simp; omega) | omega)]; simp [go_sem, q4_h_0, r4_h_0, q4_h_1, r4_h_1, z4_h, q4_h_1_0, r4_h_1_0, q4_h_1_1, r4_h_1_1, z4_h_1, q4_w3_0, r4_w3_0, q4_w3_1, r4_w3_1, z4_w3]
          have z6_h_1 : w.heap.size + 1 < w6.heap.size := kz6 _ (by first | assumption | (simp; done) | (simp; omega) | omega)
          have q6_w3_0 : w6.cell? ⟨w3.heap.size, 0, none⟩ = some (.int .i64 RN) := by rw [kc6 _ _ (by first | assumption | (simp; done) | (simp; omega) | omega)]; simp [go_sem, q4_h_0, r4_h_0, q4_h_1, r4_h_1, z4_h, q4_h_1_0, r4_h_1_0, q4_h_1_1, r4_h_1_1, z4_h_1, q4_w3_0, r4_w3_0, q4_w3_1, r4_w3_1, z4_w3]
          have r6_w3_0 : w6.frozen? ⟨w3.heap.size, 0, none⟩ = false := by rw [kf6 _ _ (by first | assumption | (simp; done) | (simp; omega) | omega)]; simp [go_sem, q4_h_0, r4_h_0, q4_h_1, r4_h_1, z4_h, q4_h_1_0, r4_h_1_0, q4_h_1_1, r4_h_1_1, z4_h_1, q4_w3_0, r4_w3_0, q4_w3_1, r4_w3_1, z4_w3]
          have q6_w3_1 : w6.cell? ⟨w3.heap.size, 1, none⟩ = some (.int .i64 RD) := by rw [kc6 _ _ (by first | assumption | (simp; done) | (simp; omega) | omega)]; simp [go_sem, q4_h_0, r4_h_0, q4_h_1, r4_h_1, z4_h, q4_h_1_0, r4_h_1_0, q4_h_1_1, r4_h_1_1, z4_h_1, q4_w3_0, r4_w3_0, q4_w3_1, r4_w3_1, z4_w3]
          have r6_w3_1 : w6.frozen? ⟨w3.heap.size, 1, none⟩ = false := by rw [kf6 _ _ (by first | assumption | (simp; done) | (simp; omega) | omega)]; simp [go_sem, q4_h_0, r4_h_0, q4_h_1, r4_h_1, z4_h, q4_h_1_0, r4_h_1_0, q4_h_1_1, r4_h_1_1, z4_h_1, q4_w3_0, r4_w3_0, q4_w3_1, r4_w3_1, z4_w3]
          have z6_w3 : w3.heap.size < w6.heap.size := kz6 _ (by first | assumption | (simp; done) | (simp; omega) | omega)
          clear kc6 kf6 kz6 ky6 kx6 kv6 ku6 hb6 q4_h_0 r4_h_0 q4_h_1 r4_h_1 z4_h q4_h_1_0 r4_h_1_0 q4_h_1_1 r4_h_1_1 z4_h_1 q4_w3_0 r4_w3_0 q4_w3_1 r4_w3_1 z4_w3
          go_wp2
          go_roundw
          case rel =>
            refine ⟨k + 1, by omega, by go_num, hnle, hnlast, ?_, ?_, ?_, ?_, ?_, ?_, ?_, ?_, ?_, ?_⟩
            all_goals first | ((repeat (first | with_reducible exact Below.refl _ _ | with_reducible assumption | with_reducible refine balloc ?_ _ | with_reducible refine bdrew ?_ | with_reducible refine below_drewN ?_ _ | with_reducible refine bset ?_ ?_ _ | with_reducible exact Nat.le_refl _ | with_reducible refine bsize ?_ | (dsimp only; refine Nat.le_trans ?_ (Nat.le_add_right _ _)) | with_reducible refine Nat.le_trans ?_ (Nat.le_add_right _ _) | (with_reducible refine bstep ?_ (by assumption)))); done) | assumption | (simp [go_sem]; done) | (simp [go_sem, *]; done) | (simp; omega) | omega
          case measure => simp [intOf]; omega
        · obtain ⟨q1, q2, q3, q4, qam⟩ := rp_bd 1 (k + 1) (Or.inl rfl) (by omega)
          have hcmp2 := fun W => cmp_spec (rP 1 (k + 1)).1 (rP 1 (k + 1)).2 n d (am_of _ _ qam) (am_of n d hA.out) W
          have hk9' : (k : Int) < 10 := by omega
          by_cases hn : leR 1 (k + 1) n d = true
          · have hnle : Hid (leR 1 (min (k + 1) 10) n d = true) := by
              have : min (k + 1) 10 = k + 1 := by omega
              show leR 1 (min (k + 1) 10) n d = true
              rw [this]; exact hn
            have hnlast : Hid (k + 1 = 11 → (rP 1 10).1 * d < n * (rP 1 10).2) := by
              intro h; omega
            have hs2 : ¬ 0 < sgI ((rP 1 (k + 1)).1 * d - n * (rP 1 (k + 1)).2) := by
              have h' := (leR_iff 1 (k + 1) n d).1 hn
              unfold sgI; split <;> (try split) <;> omega
            generalize sgI ((rP 1 (k + 1)).1 * d - n * (rP 1 (k + 1)).2) = S2 at *
            have HC2 := Lib.hid hcmp2
            have hfar2 := fun W => far_whole_out (k + 1) (by omega) W
            have ek : ((k + 1 : Nat) : Int) = (k : Int) + 1 := by omega
            rw [ek] at hfar2
            have HF2 := Lib.hid hfar2
            clear hfar2 ek
            clear hcmp hcmp2 hle hle0 pam qam hsg he hfar hlt hn
            generalize (rP 1 k).1 = RN at *
            generalize (rP 1 k).2 = RD at *
            generalize (rP 1 (k + 1)).1 = RN2 at *
            generalize (rP 1 (k + 1)).2 = RD2 at *
            go_wp2_with fail
            refine (whole_is_spec _ _).mono ?_
            rintro e w2 ⟨rfl, rfl⟩
            (go_wp2_with fail; refine (HF.out _).mono ?_; rintro e w3 ⟨rfl, hb3⟩; (have ha3 : Below w.heap.size w w3 := by (repeat (first | with_reducible exact Below.refl _ _ | with_reducible assumption | with_reducible refine balloc ?_ _ | with_reducible refine bdrew ?_ | with_reducible refine below_drewN ?_ _ | with_reducible refine bset ?_ ?_ _ | with_reducible exact Nat.le_refl _ | with_reducible refine bsize ?_ | (dsimp only; refine Nat.le_trans ?_ (Nat.le_add_right _ _)) | with_reducible refine Nat.le_trans ?_ (Nat.le_add_right _ _) | (with_reducible refine bstep ?_ (by assumption))))); obtain ⟨kc3, kf3, kz3, ky3, kx3, kv3, ku3⟩ := bcell hb3)
            have q3_h_0 : w3.cell? ⟨w.heap.size, 0, none⟩ = some (.int .i64 n) := by rw [kc3 _ _ (by first | assumption | (simp; done) | (simp; omega) | omega)]; simp [go_sem, c1, c2, r1, r2, r3, r4, r5, r6, hs, hs0]
            have r3_h_0 : w3.frozen? ⟨w.heap.size, 0, none⟩ = false := by rw [kf3 _ _ (by first | assumption | (simp; done) | (simp; omega) | omega)]; simp [go_sem, c1, c2, r1, r2, r3, r4, r5, r6, hs, hs0]
            have q3_h_1 : w3.cell? ⟨w.heap.size, 1, none⟩ = some (.int .i64 d) := by rw [kc3 _ _ (by first | assumption | (simp; done) | (simp; omega) | omega)]; simp [go_sem, c1, c2, r1, r2, r3, r4, r5, r6, hs, hs0]
            have r3_h_1 : w3.frozen? ⟨w.heap.size, 1, none⟩ = false := by rw [kf3 _ _ (by first | assumption | (simp; done) | (simp; omega) | omega)]; simp [go_sem, c1, c2, r1, r2, r3, r4, r5, r6, hs, hs0]
            have z3_h : w.heap.size < w3.heap.size := kz3 _ (by first | assumption | (simp; done) | (simp; omega) | omega)
            have q3_h_1_0 : w3.cell? ⟨w.heap.size + 1, 0, none⟩ = some (.int .i64 0) := by rw [kc3 _ _ (by first | assumption | (simp; done) | (simp; omega) | omega)]; simp [go_sem, c1, c2, r1, r2, r3, r4, r5, r6, hs, hs0]
            have r3_h_1_0 : w3.frozen? ⟨w.heap.size + 1, 0, none⟩ = false := by rw [kf3 _ _ (by first | assumption | (simp; done) | (simp; omega) | omega)]; simp [go_sem, c1, c2, r1, r2, r3, r4, r5, r6, hs, hs0]
            have q3_h_1_1 : w3.cell? ⟨w.heap.size + 1, 1, none⟩ = some (.int .i64 0) := by rw [kc3 _ _ (by first | assumption | (simp; done) | (simp; omega) | omega)]; simp [go_sem, c1, c2, r1, r2, r3, r4, r5, r6, hs, hs0]
            have r3_h_1_1 : w3.frozen? ⟨w.heap.size + 1, 1, none⟩ = false := by rw [kf3 _ _ (by first | assumption | (simp; done) | (simp; omega) | omega)]; simp [go_sem, c1, c2, r1, r2, r3, r4, r5, r6, hs, hs0]
            have z3_h_1 : w.heap.size + 1 < w3.heap.size := kz3 _ (by first | assumption | (simp; done) | (simp; omega) | omega)
            clear kc3 kf3 kz3 ky3 kx3 kv3 ku3 hb3 c1 c2 r1 r2 r3 r4 r5 r6 hs hs0
            (go_wp2_with fail; refine (HC.out _).mono ?_; rintro e w4 ⟨rfl, hb4⟩; (have ha4 : Below w.heap.size w w4 := by (repeat (first | with_reducible exact Below.refl _ _ | with_reducible assumption | with_reducible refine balloc ?_ _ | with_reducible refine bdrew ?_ | with_reducible refine below_drewN ?_ _ | with_reducible refine bset ?_ ?_ _ | with_reducible exact Nat.le_refl _ | with_reducible refine bsize ?_ | (dsimp only; refine Nat.le_trans ?_ (Nat.le_add_right _ _)) | with_reducible refine Nat.le_trans ?_ (Nat.le_add_right _ _) | (with_reducible refine bstep ?_ (by assumption))))); obtain ⟨kc4, kf4, kz4, ky4, kx4, kv4, ku4⟩ := bcell hb4)
            have q4_h_0 : w4.cell? ⟨w.heap.size, 0, none⟩ = some (.int .i64 n) := by rw [kc4 _ _ (by first | assumption | (simp; done) | (simp; omega) | omega)]; simp [go_sem, q3_h_0, r3_h_0, q3_h_1, r3_h_1, z3_h, q3_h_1_0, r3_h_1_0, q3_h_1_1, r3_h_1_1, z3_h_1]
            have r4_h_0 : w4.frozen? ⟨w.heap.size, 0, none⟩ = false := by rw [kf4 _ _ (by first | assumption | (simp; done) | (simp; omega) | omega)]; simp [go_sem, q3_h_0, r3_h_0, q3_h_1, r3_h_1, z3_h, q3_h_1_0, r3_h_1_0, q3_h_1_1, r3_h_1_1, z3_h_1]
            have q4_h_1 : w4.cell? ⟨w.heap.size, 1, none⟩ = some (.int .i64 d) := by rw [kc4 _ _ (by first | assumption | (simp; done) | (simp; omega) | omega)]; simp [go_sem, q3_h_0, r3_h_0, q3_h_1, r3_h_1, z3_h, q3_h_1_0, r3_h_1_0, q3_h_1_1, r3_h_1_1, z3_h_1]
            have r4_h_1 : w4.frozen? ⟨w.heap.size, 1, none⟩ = false := by rw [kf4 _ _ (by first | assumption | (simp; done) | (simp; omega) | omega)]; simp [go_sem, q3_h_0, r3_h_0, q3_h_1, r3_h_1, z3_h, q3_h_1_0, r3_h_1_0, q3_h_1_1, r3_h_1_1, z3_h_1]
            have z4_h : w.heap.size < w4.heap.size := kz4 _ (by first | assumption | (simp; done) | (simp; omega) | omega)
            have q4_h_1_0 : w4.cell? ⟨w.heap.size + 1, 0, none⟩ = some (.int .i64 0) := by rw [kc4 _ _ (by first | assumption | (simp; done) | (simp; omega) | omega)]; simp [go_sem, q3_h_0, r3_h_0, q3_h_1, r3_h_1, z3_h, q3_h_1_0, r3_h_1_0, q3_h_1_1, r3_h_1_1, z3_h_1]
            have r4_h_1_0 : w4.frozen? ⟨w.heap.size + 1, 0, none⟩ = false := by rw [kf4 _ _ (by first | assumption | (simp; done) | (simp; omega) | omega)]; simp [go_sem, q3_h_0, r3_h_0, q3_h_1, r3_h_1, z3_h, q3_h_1_0, r3_h_1_0, q3_h_1_1, r3_h_1_1, z3_h_1]
            have q4_h_1_1 : w4.cell? ⟨w.heap.size + 1, 1, none⟩ = some (.int .i64 0) := by rw [kc4 _ _ (by first | assumption | (simp; done) | (simp; omega) | omega)]; simp [go_sem, q3_h_0, r3_h_0, q3_h_1, r3_h_1, z3_h, q3_h_1_0, r3_h_1_0, q3_h_1_1, r3_h_1_1, z3_h_1]
            have r4_h_1_1 : w4.frozen? ⟨w.heap.size + 1, 1, none⟩ = false := by rw [kf4 _ _ (by first | assumption | (simp; done) | (simp; omega) | omega)]; simp [go_sem, q3_h_0, r3_h_0, q3_h_1, r3_h_1, z3_h, q3_h_1_0, r3_h_1_0, q3_h_1_1, r3_h_1_1, z3_h_1]
            have z4_h_1 : w.heap.size + 1 < w4.heap.size := kz4 _ (by first | assumption | (simp; done) | (simp; omega) | omega)
            have q4_w3_0 : w4.cell? ⟨w3.heap.size, 0, none⟩ = some (.int .i64 RN) := by rw [kc4 _ _ (by first | assumption | (simp; done) | (simp; omega) | omega)]; simp [go_sem, q3_h_0, r3_h_0, q3_h_1, r3_h_1, z3_h, q3_h_1_0, r3_h_1_0, q3_h_1_1, r3_h_1_1, z3_h_1]
            have r4_w3_0 : w4.frozen? ⟨w3.heap.size, 0, none⟩ = false := by rw [kf4 _ _ (by first | assumption | (simp; done) | (simp; omega) | omega)]; simp [go_sem, q3_h_0, r3_h_0, q3_h_1, r3_h_1, z3_h, q3_h_1_0, r3_h_1_0, q3_h_1_1, r3_h_1_1, z3_h_1]
            have q4_w3_1 : w4.cell? ⟨w3.heap.size, 1, none⟩ = some (.int .i64 RD) := by rw [kc4 _ _ (by first | assumption | (simp; done) | (simp; omega) | omega)]; simp [go_sem, q3_h_0, r3_h_0, q3_h_1, r3_h_1, z3_h, q3_h_1_0, r3_h_1_0, q3_h_1_1, r3_h_1_1, z3_h_1]
            have r4_w3_1 : w4.frozen? ⟨w3.heap.size, 1, none⟩ = false := by rw [kf4 _ _ (by first | assumption | (simp; done) | (simp; omega) | omega)]; simp [go_sem, q3_h_0, r3_h_0, q3_h_1, r3_h_1, z3_h, q3_h_1_0, r3_h_1_0, q3_h_1_1, r3_h_1_1, z3_h_1]
            have z4_w3 : w3.heap.size < w4.heap.size := kz4 _ (by first | assumption | (simp; done) | (simp; omega) | omega)
            clear kc4 kf4 kz4 ky4 kx4 kv4 ku4 hb4 q3_h_0 r3_h_0 q3_h_1 r3_h_1 z3_h q3_h_1_0 r3_h_1_0 q3_h_1_1 r3_h_1_1 z3_h_1
            go_wp2_with fail
            refine (whole_is_spec _ _).mono ?_
            rintro e w5 ⟨rfl, rfl⟩
            (go_wp2_with fail; refine (HF2.out _).mono ?_; rintro e w6 ⟨rfl, hb6⟩; (have ha6 : Below w.heap.size w w6 := by (repeat (first | with_reducible exact Below.refl _ _ | with_reducible assumption | with_reducible refine balloc ?_ _ | with_reducible refine bdrew ?_ | with_reducible refine below_drewN ?_ _ | with_reducible refine bset ?_ ?_ _ | with_reducible exact Nat.le_refl _ | with_reducible refine bsize ?_ | (dsimp only; refine Nat.le_trans ?_ (Nat.le_add_right _ _)) | with_reducible refine Nat.le_trans ?_ (Nat.le_add_right _ _) | (with_reducible refine bstep ?_ (by assumption))))); obtain ⟨kc6, kf6, kz6, ky6, kx6, kv6, ku6⟩ := bcell hb6)
            have q6_h_0 : w6.cell? ⟨w.heap.size, 0, none⟩ = some (.int .i64 n) := by rw [kc6 _ _ (by first | assumption | (simp; done) | (simp; omega) | omega)]; simp [go_sem, q4_h_0, r4_h_0, q4_h_1, r4_h_1, z4_h, q4_h_1_0, r4_h_1_0, q4_h_1_1, r4_h_1_1, z4_h_1, q4_w3_0, r4_w3_0, q4_w3_1, r4_w3_1, z4_w3]
            have r6_h_0 : w6.frozen? ⟨w.heap.size, 0, none⟩ = false := by rw [kf6 _ _ (by first | assumption | (simp; done) | (simp; omega) | omega)]; simp [go_sem, q4_h_0, r4_h_0, q4_h_1, r4_h_1, z4_h, q4_h_1_0, r4_h_1_0, q4_h_1_1, r4_h_1_1, z4_h_1, q4_w3_0, r4_w3_0, q4_w3_1, r4_w3_1, z4_w3]
            have q6_h_1 : w6.cell? ⟨w.heap.size, 1, none⟩ = some (.int .i64 d) := by rw [kc6 _ _ (by first | assumption | (simp; done) | (simp; omega) | omega)]; simp [go_sem, q4_h_0, r4_h_0, q4_h_1, r4_h_1, z4_h, q4_h_1_0, r4_h_1_0, q4_h_1_1, r4_h_1_1, z4_h_1, q4_w3_0, r4_w3_0, q4_w3_1, r4_w3_1, z4_w3]
            have r6_h_1 : w6.frozen? ⟨w.heap.size, 1, none⟩ = false := by rw [kf6 _ _ (by first | assumption | (simp; done) | (simp; omega) | omega)]; simp [go_sem, q4_h_0, r4_h_0, q4_h_1, r4_h_1, z4_h, q4_h_1_0, r4_h_1_0, q4_h_1_1, r4_h_1_1, z4_h_1, q4_w3_0, r4_w3_0, q4_w3_1, r4_w3_1, z4_w3]
            have z6_h : w.heap.size < w6.heap.size := kz6 _ (by first | assumption | (simp; done) | (simp; omega) | omega)
            have q6_h_1_0 : w6.cell? ⟨w.heap.size + 1, 0, none⟩ = some (.int .i64 0) := by rw [kc6 _ _ (by first | assumption | (simp; done) | (simp; omega) | omega)]; simp [go_sem, q4_h_0, r4_h_0, q4_h_1, r4_h_1, z4_h, q4_h_1_0, r4_h_1_0, q4_h_1_1, r4_h_1_1, z4_h_1, q4_w3_0, r4_w3_0, q4_w3_1, r4_w3_1, z4_w3]
            have r6_h_1_0 : w6.frozen? ⟨w.heap.size + 1, 0, none⟩ = false := by rw [kf6 _ _ (by first | assumption | (simp; done) | (simp; omega) | omega)]; simp [go_sem, q4_h_0, r4_h_0, q4_h_1, r4_h_1, z4_h, q4_h_1_0, r4_h_1_0, q4_h_1_1, r4_h_1_1, z4_h_1, q4_w3_0, r4_w3_0, q4_w3_1, r4_w3_1, z4_w3]
            have q6_h_1_1 : w6.cell? ⟨w.heap.size + 1, 1, none⟩ = some (.int .i64 0) := by rw [kc6 _ _ (by first | assumption | (simp; done) | (simp; omega) | omega)]; simp [go_sem, q4_h_0, r4_h_0, q4_h_1, r4_h_1, z4_h, q4_h_1_0, r4_h_1_0, q4_h_1_1, r4_h_1_1, z4_h_1, q4_w3_0, r4_w3_0, q4_w3_1, r4_w3_1, z4_w3]
            have r6_h_1_1 : w6.frozen? ⟨w.heap.size + 1, 1, none⟩ = false := by rw [kf6 _ _ (by first | assumption | (simp; done) | (simp; omega) | omega)]; simp [go_sem, q4_h_0, r4_h_0, q4_h_1, r4_h_1, z4_h, q4_h_1_0, r4_h_1_0, q4_h_1_1, r4_h_1_1, z4_h_1, q4_w3_0, r4_w3_0, q4_w3_1, r4_w3_1, z4_w3]
            have z6_h_1 : w.heap.size + 1 < w6.heap.size := kz6 _ (by first | assumption | (simp; done) | (simp; omega) | omega)
            have q6_w3_0 : w6.cell? ⟨w3.heap.size, 0, none⟩ = some (.int .i64 RN) := by rw [kc6 _ _ (by first | assumption | (simp; done) | (simp; omega) | omega)]; simp [go_sem, q4_h_0, r4_h_0, q4_h_1, r4_h_1, z4_h, q4_h_1_0, r4_h_1_0, q4_h_1_1, r4_h_1_1, z4_h_1, q4_w3_0, r4_w3_0, q4_w3_1, r4_w3_1, z4_w3]
            have r6_w3_0 : w6.frozen? ⟨w3.heap.size, 0, none⟩ = false := by rw [kf6 _ _ (by first | assumption | (simp; done) | (simp; omega) | omega)]; simp [go_sem, q4_h_0, r4_h_0, q4_h_1, r4_h_1, z4_h, q4_h_1_0, r4_h_1_0, q4_h_1_1, r4_h_1_1, z4_h_1, q4_w3_0, r4_w3_0, q4_w3_1, r4_w3_1, z4_w3]
            have q6_w3_1 : w6.cell? ⟨w3.heap.size, 1, none⟩ = some (.int .i64 RD) := by rw [kc6 _ _ (by first | assumption | (simp; done) | (simp; omega) | omega)]; simp [go_sem, q4_h_0, r4_h_0, q4_h_1, r4_h_1, z4_h, q4_h_1_0, r4_h_1_0, q4_h_1_1, r4_h_1_1, z4_h_1, q4_w3_0, r4_w3_0, q4_w3_1, r4_w3_1, z4_w3]
            have r6_w3_1 : w6.frozen? ⟨w3.heap.size, 1, none⟩ = false := by rw [kf6 _ _ (by first | assumption | (simp; done) | (simp; omega) | omega)]; simp [go_sem, q4_h_0, r4_h_0, q4_h_1, r4_h_1, z4_h, q4_h_1_0, r4_h_1_0, q4_h_1_1, r4_h_1_1, z4_h_1, q4_w3_0, r4_w3_0, q4_w3_1, r4_w3_1, z4_w3]
            have z6_w3 : w3.heap.size < w6.heap.size := kz6 _ (by first | assumption | (simp; done) | (simp; omega) | omega)
            clear kc6 kf6 kz6 ky6 kx6 kv6 ku6 hb6 q4_h_0 r4_h_0 q4_h_1 r4_h_1 z4_h q4_h_1_0 r4_h_1_0 q4_h_1_1 r4_h_1_1 z4_h_1 q4_w3_0 r4_w3_0 q4_w3_1 r4_w3_1 z4_w3
            (go_wp2_with fail; refine (HC2.out _).mono ?_; rintro e w7 ⟨rfl, hb7⟩; (have ha7 : Below w.heap.size w w7 := by (repeat (first | with_reducible exact Below.refl _ _ | with_reducible assumption | with_reducible refine balloc ?_ _ | with_reducible refine bdrew ?_ | with_reducible refine below_drewN ?_ _ | with_reducible refine bset ?_ ?_ _ | with_reducible exact Nat.le_refl _ | with_reducible refine bsize ?_ | (dsimp only; refine Nat.le_trans ?_ (Nat.le_add_right _ _)) | with_reducible refine Nat.le_trans ?_ (Nat.le_add_right _ _) | (with_reducible refine bstep ?_ (by assumption))))); obtain ⟨kc7, kf7, kz7, ky7, kx7, kv7, ku7⟩ := bcell hb7)
            have q7_h_0 : w7.cell? ⟨w.heap.size, 0, none⟩ = some (.int .i64 n) := by rw [kc7 _ _ (by first | assumption | (simp; done) | (simp; omega) | omega)]; simp [go_sem, q6_h_0, r6_h_0, q6_h_1, r6_h_1, z6_h, q6_h_1_0, r6_h_1_0, q6_h_1_1, r6_h_1_1, z6_h_1, q6_w3_0, r6_w3_0, q6_w3_1, r6_w3_1, z6_w3]
            have r7_h_0 : w7.frozen? ⟨w.heap.size, 0, none⟩ = false := by rw [kf7 _ _ (by first | assumption | (simp; done) | (simp; omega) | omega)]; simp [go_sem, q6_h_0, r6_h_0, q6_h_1, r6_h_1, z6_h, q6_h_1_0, r6_h_1_0, q6_h_1_1, r6_h_1_1, z6_h_1, q6_w3_0, r6_w3_0, q6_w3_1, r6_w3_1, z6_w3]
            have q7_h_1 : w7.cell? ⟨w.heap.size, 1, none⟩ = some (.int .i64 d) := by rw [kc7 _ _ (by first | assumption | (simp; done) | (simp; omega) | omega)]; simp [go_sem, q6_h_0, r6_h_0, q6_h_1, r6_h_1, z6_h, q6_h_1_0, r6_h_1_0, q6_h_1_1, r6_h_1_1, z6_h_1, q6_w3_0, r6_w3_0, q6_w3_1, r6_w3_1, z6_w3]
            have r7_h_1 : w7.frozen? ⟨w.heap.size, 1, none⟩ = false := by rw [kf7 _ _ (by first | assumption | (simp; done) | (simp; omega) | omega)]; simp [go_sem, q6_h_0, r6_h_0, q6_h_1, r6_h_1, z6_h, q6_h_1_0, r6_h_1_0, q6_h_1_1, r6_h_1_1, z6_h_1, q6_w3_0, r6_w3_0, q6_w3_1, r6_w3_1, z6_w3]
            have z7_h : w.heap.size < w7.heap.size := kz7 _ (by first | assumption | (simp; done) | (simp; omega) | omega)
            have q7_h_1_0 : w7.cell? ⟨w.heap.size + 1, 0, none⟩ = some (.int .i64 0) := by rw [kc7 _ _ (by first | assumption | (simp; done) | (simp; omega) | omega)]; simp [go_sem, q6_h_0, r6_h_0, q6_h_1, r6_h_1, z6_h, q6_h_1_0, r6_h_1_0, q6_h_1_1, r6_h_1_1, z6_h_1, q6_w3_0, r6_w3_0, q6_w3_1, r6_w3_1, z6_w3]
            have r7_h_1_0 : w7.frozen? ⟨w.heap.size + 1, 0, none⟩ = false := by rw [kf7 _ _ (by first | assumption | (simp; done) | (simp; omega) | omega)]; simp [go_sem, q6_h_0, r6_h_0, q6_h_1, r6_h_1, z6_h, q6_h_1_0, r6_h_1_0, q6_h_1_1, r6_h_1_1, z6_h_1, q6_w3_0, r6_w3_0, q6_w3_1, r6_w3_1, z6_w3]
            have q7_h_1_1 : w7.cell? ⟨w.heap.size + 1, 1, none⟩ = some (.int .i64 0) := by rw [kc7 _ _ (by first | assumption | (simp; done) | (simp; omega) | omega)]; simp [go_sem, q6_h_0, r6_h_0, q6_h_1, r6_h_1, z6_h, q6_h_1_0, r6_h_1_0, q6_h_1_1, r6_h_1_1, z6_h_1, q6_w3_0, r6_w3_0, q6_w3_1, r6_w3_1, z6_w3]
            have r7_h_1_1 : w7.frozen? ⟨w.heap.size + 1, 1, none⟩ = false := by rw [kf7 _ _ (by first | assumption | (simp; done) | (simp; omega) | omega)]; simp [go_sem, q6_h_0, r6_h_0, q6_h_1, r6_h_1, z6_h, q6_h_1_0, r6_h_1_0, q6_h_1_1, r6_h_1_1, z6_h_1, q6_w3_0, r6_w3_0, q6_w3_1, r6_w3_1, z6_w3]
            have z7_h_1 : w.heap.size + 1 < w7.heap.size := kz7 _ (by first | assumption | (simp; done) | (simp; omega) | omega)
            have q7_w3_0 : w7.cell? ⟨w3.heap.size, 0, none⟩ = some (.int .i64 RN) := by rw [kc7 _ _ (by first | assumption | (simp; done) | (simp; omega) | omega)]; simp [go_sem, q6_h_0, r6_h_0, q6_h_1, r6_h_1, z6_h, q6_h_1_0, r6_h_1_0, q6_h_1_1, r6_h_1_1, z6_h_1, q6_w3_0, r6_w3_0, q6_w3_1, r6_w3_1, z6_w3]
            have r7_w3_0 : w7.frozen? ⟨w3.heap.size, 0, none⟩ = false := by rw [kf7 _ _ (by first | assumption | (simp; done) | (simp; omega) | omega)]; simp [go_sem, q6_h_0, r6_h_0, q6_h_1, r6_h_1, z6_h, q6_h_1_0, r6_h_1_0, q6_h_1_1, r6_h_1_1, z6_h_1, q6_w3_0, r6_w3_0, q6_w3_1, r6_w3_1, z6_w3]
            have q7_w3_1 : w7.cell? ⟨w3.heap.size, 1, none⟩ = some (.int .i64 RD) := by rw [kc7 _ _ (by first | assumption | (simp; done) | (simp; omega) | omega)]; simp [go_sem, q6_h_0, r6_h_0, q6_h_1, r6_h_1, z6_h, q6_h_1_0, r6_h_1_0, q6_h_1_1, r6_h_1_1, z6_h_1, q6_w3_0, r6_w3_0, q6_w3_1, r6_w3_1, z6_w3]
            have r7_w3_1 : w7.frozen? ⟨w3.heap.size, 1, none⟩ = false := by rw [kf7 _ _ (by first | assumption | (simp; done) | (simp; omega) | omega)]; simp [go_sem, q6_h_0, r6_h_0, q6_h_1, r6_h_1, z6_h, q6_h_1_0, r6_h_1_0, q6_h_1_1, r6_h_1_1, z6_h_1, q6_w3_0, r6_w3_0, q6_w3_1, r6_w3_1, z6_w3]
            have z7_w3 : w3.heap.size < w7.heap.size := kz7 _ (by first | assumption | (simp; done) | (simp; omega) | omega)
            clear kc7 kf7 kz7 ky7 kx7 kv7 ku7 hb7 q6_h_0 r6_h_0 q6_h_1 r6_h_1 z6_h q6_h_1_0 r6_h_1_0 q6_h_1_1 r6_h_1_1 z6_h_1 q6_w3_0 r6_w3_0 q6_w3_1 r6_w3_1 z6_w3
            go_wp2
            go_roundw
            case rel =>
              refine ⟨k + 1, by omega, by go_num, hnle, hnlast, ?_, ?_, ?_, ?_, ?_, ?_, ?_, ?_, ?_, ?_⟩
              all_goals first | ((repeat (first | with_reducible exact Below.refl _ _ | with_reducible assumption | with_reducible refine balloc ?_ _ | with_reducible refine bdrew ?_ | with_reducible refine below_drewN ?_ _ | with_reducible refine bset ?_ ?_ _ | with_reducible exact Nat.le_refl _ | with_reducible refine bsize ?_ | (dsimp only; refine Nat.le_trans ?_ (Nat.le_add_right _ _)) | with_reducible refine Nat.le_trans ?_ (Nat.le_add_right _ _) | (with_reducible refine bstep ?_ (by assumption)))); done) | assumption | (simp [go_sem]; done) | (simp [go_sem, *]; done) | (simp; omega) | omega
            case measure => simp [intOf]; omega
          · have hn' : leR 1 (k + 1) n d = false := by simpa using hn
            have hs2 : sgI ((rP 1 (k + 1)).1 * d - n * (rP 1 (k + 1)).2) = 1 := by
              have h' := (leR_not 1 (k + 1) n d).1 hn'
              unfold sgI; rw [if_pos (by omega)]
            rw [hs2] at hcmp2
            have hmid := need_mid 1 k n d (Or.inl rfl) (by omega) hA.out hle0 hn'
            obtain ⟨b1, b2, b3, b4, b5, b6, b7, b8, b9, b10, b11⟩ := lf_bd 1 k n d (Or.inl rfl) (by omega) hA.out hle0
            obtain ⟨v0, v1⟩ := drv_bd 1 k (Or.inl rfl) (by omega)
            have hnd := nd_bd (drv 1 k) n (rP 1 k).1 d (rP 1 k).2 v0 v1 b9 (by omega) b1 b2
            have HC2 := Lib.hid hcmp2
            rw [drvOut_is] at hmid hnd
            obtain ⟨g1, g2, u1, u2, x1, x2, y1, y2, z1, z2, t1, t2⟩ := hnd
            have hG : gi (n * (rP 1 k).2 - (rP 1 k).1 * d) (d * (rP 1 k).2) = ndG n (rP 1 k).1 d (rP 1 k).2 := rfl
            have hU : (n * (rP 1 k).2 - (rP 1 k).1 * d) / ndG n (rP 1 k).1 d (rP 1 k).2 = ndU n (rP 1 k).1 d (rP 1 k).2 := rfl
            have hV : d * (rP 1 k).2 / ndG n (rP 1 k).1 d (rP 1 k).2 = ndV n (rP 1 k).1 d (rP 1 k).2 := rfl
            have hC : gi (2 * (k : Int) + 1) (ndV n (rP 1 k).1 d (rP 1 k).2) = ndC (2 * (k : Int) + 1) n (rP 1 k).1 d (rP 1 k).2 := rfl
            have hW : ndV n (rP 1 k).1 d (rP 1 k).2 / ndC (2 * (k : Int) + 1) n (rP 1 k).1 d (rP 1 k).2 = ndW (2 * (k : Int) + 1) n (rP 1 k).1 d (rP 1 k).2 := rfl
            have hE : (2 * (k : Int) + 1) / ndC (2 * (k : Int) + 1) n (rP 1 k).1 d (rP 1 k).2 = ndE (2 * (k : Int) + 1) n (rP 1 k).1 d (rP 1 k).2 := rfl
            generalize ndE (2 * (k : Int) + 1) n (rP 1 k).1 d (rP 1 k).2 = E at *
            generalize ndW (2 * (k : Int) + 1) n (rP 1 k).1 d (rP 1 k).2 = W at *
            generalize ndC (2 * (k : Int) + 1) n (rP 1 k).1 d (rP 1 k).2 = C at *
            generalize ndV n (rP 1 k).1 d (rP 1 k).2 = V at *
            generalize ndU n (rP 1 k).1 d (rP 1 k).2 = U at *
            generalize ndG n (rP 1 k).1 d (rP 1 k).2 = G at *
            have kw := mul_le (k : Int) W 10 14549535000000000 (by omega) (by omega) (by omega) z2
            have ue := mul_le U E 14549535000000000 24 u1 u2 t1 t2
            have HM := Lib.hid hmid
            have hfar2 := fun W => far_whole_out (k + 1) (by omega) W
            have ek : ((k + 1 : Nat) : Int) = (k : Int) + 1 := by omega
            rw [ek] at hfar2
            have HF2 := Lib.hid hfar2
            clear hfar2 ek
            clear hcmp hcmp2 hle hle0 pam qam hsg he hfar hlt hn hn' hs2 hmid b10 b11 v0 v1
            generalize (rP 1 k).1 = RN at *
            generalize (rP 1 k).2 = RD at *
            generalize (rP 1 (k + 1)).1 = RN2 at *
            generalize (rP 1 (k + 1)).2 = RD2 at *
            go_wp2_with fail
            refine (whole_is_spec _ _).mono ?_
            rintro e w2 ⟨rfl, rfl⟩
            (go_wp2_with fail; refine (HF.out _).mono ?_; rintro e w3 ⟨rfl, hb3⟩; (have ha3 : Below w.heap.size w w3 := by (repeat (first | with_reducible exact Below.refl _ _ | with_reducible assumption | with_reducible refine balloc ?_ _ | with_reducible refine bdrew ?_ | with_reducible refine below_drewN ?_ _ | with_reducible refine bset ?_ ?_ _ | with_reducible exact Nat.le_refl _ | with_reducible refine bsize ?_ | (dsimp only; refine Nat.le_trans ?_ (Nat.le_add_right _ _)) | with_reducible refine Nat.le_trans ?_ (Nat.le_add_right _ _) | (with_reducible refine bstep ?_ (by assumption))))); obtain ⟨kc3, kf3, kz3, ky3, kx3, kv3, ku3⟩ := bcell hb3)
            have q3_h_0 : w3.cell? ⟨w.heap.size, 0, none⟩ = some (.int .i64 n) := by rw [kc3 _ _ (by first | assumption | (simp; done) | (simp; omega) | omega)]; simp [go_sem, c1, c2, r1, r2, r3, r4, r5, r6, hs, hs0]
            have r3_h_0 : w3.frozen? ⟨w.heap.size, 0, none⟩ = false := by rw [kf3 _ _ (by first | assumption | (simp; done) | (simp; omega) | omega)]; simp [go_sem, c1, c2, r1, r2, r3, r4, r5, r6, hs, hs0]
            have q3_h_1 : w3.cell? ⟨w.heap.size, 1, none⟩ = some (.int .i64 d) := by rw [kc3 _ _ (by first | assumption | (simp; done) | (simp; omega) | omega)]; simp [go_sem, c1, c2, r1, r2, r3, r4, r5, r6, hs, hs0]
            have r3_h_1 : w3.frozen? ⟨w.heap.size, 1, none⟩ = false := by rw [kf3 _ _ (by first | assumption | (simp; done) | (simp; omega) | omega)]; simp [go_sem, c1, c2, r1, r2, r3, r4, r5, r6, hs, hs0]
            have z3_h : w.heap.size < w3.heap.size := kz3 _ (by first | assumption | (simp; done) | (simp; omega) | omega)
            have q3_h_1_0 : w3.cell? ⟨w.heap.size + 1, 0, none⟩ = some (.int .i64 0) := by rw [kc3 _ _ (by first | assumption | (simp; done) | (simp; omega) | omega)]; simp [go_sem, c1, c2, r1, r2, r3, r4, r5, r6, hs, hs0]
            have r3_h_1_0 : w3.frozen? ⟨w.heap.size + 1, 0, none⟩ = false := by rw [kf3 _ _ (by first | assumption | (simp; done) | (simp; omega) | omega)]; simp [go_sem, c1, c2, r1, r2, r3, r4, r5, r6, hs, hs0]
            have q3_h_1_1 : w3.cell? ⟨w.heap.size + 1, 1, none⟩ = some (.int .i64 0) := by rw [kc3 _ _ (by first | assumption | (simp; done) | (simp; omega) | omega)]; simp [go_sem, c1, c2, r1, r2, r3, r4, r5, r6, hs, hs0]
            have r3_h_1_1 : w3.frozen? ⟨w.heap.size + 1, 1, none⟩ = false := by rw [kf3 _ _ (by first | assumption | (simp; done) | (simp; omega) | omega)]; simp [go_sem, c1, c2, r1, r2, r3, r4, r5, r6, hs, hs0]
            have z3_h_1 : w.heap.size + 1 < w3.heap.size := kz3 _ (by first | assumption | (simp; done) | (simp; omega) | omega)
            clear kc3 kf3 kz3 ky3 kx3 kv3 ku3 hb3 c1 c2 r1 r2 r3 r4 r5 r6 hs hs0
            (go_wp2_with fail; refine (HC.out _).mono ?_; rintro e w4 ⟨rfl, hb4⟩; (have ha4 : Below w.heap.size w w4 := by (repeat (first | with_reducible exact Below.refl _ _ | with_reducible assumption | with_reducible refine balloc ?_ _ | with_reducible refine bdrew ?_ | with_reducible refine below_drewN ?_ _ | with_reducible refine bset ?_ ?_ _ | with_reducible exact Nat.le_refl _ | with_reducible refine bsize ?_ | (dsimp only; refine Nat.le_trans ?_ (Nat.le_add_right _ _)) | with_reducible refine Nat.le_trans ?_ (Nat.le_add_right _ _) | (with_reducible refine bstep ?_ (by assumption))))); obtain ⟨kc4, kf4, kz4, ky4, kx4, kv4, ku4⟩ := bcell hb4)
            have q4_h_0 : w4.cell? ⟨w.heap.size, 0, none⟩ = some (.int .i64 n) := by rw [kc4 _ _ (by first | assumption | (simp; done) | (simp; omega) | omega)]; simp [go_sem, q3_h_0, r3_h_0, q3_h_1, r3_h_1, z3_h, q3_h_1_0, r3_h_1_0, q3_h_1_1, r3_h_1_1, z3_h_1]
            have r4_h_0 : w4.frozen? ⟨w.heap.size, 0, none⟩ = false := by rw [kf4 _ _ (by first | assumption | (simp; done) | (simp; omega) | omega)]; simp [go_sem, q3_h_0, r3_h_0, q3_h_1, r3_h_1, z3_h, q3_h_1_0, r3_h_1_0, q3_h_1_1, r3_h_1_1, z3_h_1]
            have q4_h_1 : w4.cell? ⟨w.heap.size, 1, none⟩ = some (.int .i64 d) := by rw [kc4 _ _ (by first | assumption | (simp; done) | (simp; omega) | omega)]; simp [go_sem, q3_h_0, r3_h_0, q3_h_1, r3_h_1, z3_h, q3_h_1_0, r3_h_1_0, q3_h_1_1, r3_h_1_1, z3_h_1]
            have r4_h_1 : w4.frozen? ⟨w.heap.size, 1, none⟩ = false := by rw [kf4 _ _ (by first | assumption | (simp; done) | (simp; omega) | omega)]; simp [go_sem, q3_h_0, r3_h_0, q3_h_1, r3_h_1, z3_h, q3_h_1_0, r3_h_1_0, q3_h_1_1, r3_h_1_1, z3_h_1]
            have z4_h : w.heap.size < w4.heap.size := kz4 _ (by first | assumption | (simp; done) | (simp; omega) | omega)
            have q4_h_1_0 : w4.cell? ⟨w.heap.size + 1, 0, none⟩ = some (.int .i64 0) := by rw [kc4 _ _ (by first | assumption | (simp; done) | (simp; omega) | omega)]; simp [go_sem, q3_h_0, r3_h_0, q3_h_1, r3_h_1, z3_h, q3_h_1_0, r3_h_1_0, q3_h_1_1, r3_h_1_1, z3_h_1]
            have r4_h_1_0 : w4.frozen? ⟨w.heap.size + 1, 0, none⟩ = false := by rw [kf4 _ _ (by first | assumption | (simp; done) | (simp; omega) | omega)]; simp [go_sem, q3_h_0, r3_h_0, q3_h_1, r3_h_1, z3_h, q3_h_1_0, r3_h_1_0, q3_h_1_1, r3_h_1_1, z3_h_1]
            have q4_h_1_1 : w4.cell? ⟨w.heap.size + 1, 1, none⟩ = some (.int .i64 0) := by rw [kc4 _ _ (by first | assumption | (simp; done) | (simp; omega) | omega)]; simp [go_sem, q3_h_0, r3_h_0, q3_h_1, r3_h_1, z3_h, q3_h_1_0, r3_h_1_0, q3_h_1_1, r3_h_1_1, z3_h_1]
            have r4_h_1_1 : w4.frozen? ⟨w.heap.size + 1, 1, none⟩ = false := by rw [kf4 _ _ (by first | assumption | (simp; done) | (simp; omega) | omega)]; simp [go_sem, q3_h_0, r3_h_0, q3_h_1, r3_h_1, z3_h, q3_h_1_0, r3_h_1_0, q3_h_1_1, r3_h_1_1, z3_h_1]
            have z4_h_1 : w.heap.size + 1 < w4.heap.size := kz4 _ (by first | assumption | (simp; done) | (simp; omega) | omega)
            have q4_w3_0 : w4.cell? ⟨w3.heap.size, 0, none⟩ = some (.int .i64 RN) := by rw [kc4 _ _ (by first | assumption | (simp; done) | (simp; omega) | omega)]; simp [go_sem, q3_h_0, r3_h_0, q3_h_1, r3_h_1, z3_h, q3_h_1_0, r3_h_1_0, q3_h_1_1, r3_h_1_1, z3_h_1]
            have r4_w3_0 : w4.frozen? ⟨w3.heap.size, 0, none⟩ = false := by rw [kf4 _ _ (by first | assumption | (simp; done) | (simp; omega) | omega)]; simp [go_sem, q3_h_0, r3_h_0, q3_h_1, r3_h_1, z3_h, q3_h_1_0, r3_h_1_0, q3_h_1_1, r3_h_1_1, z3_h_1]
            have q4_w3_1 : w4.cell? ⟨w3.heap.size, 1, none⟩ = some (.int .i64 RD) := by rw [kc4 _ _ (by first | assumption | (simp; done) | (simp; omega) | omega)]; simp [go_sem, q3_h_0, r3_h_0, q3_h_1, r3_h_1, z3_h, q3_h_1_0, r3_h_1_0, q3_h_1_1, r3_h_1_1, z3_h_1]
            have r4_w3_1 : w4.frozen? ⟨w3.heap.size, 1, none⟩ = false := by rw [kf4 _ _ (by first | assumption | (simp; done) | (simp; omega) | omega)]; simp [go_sem, q3_h_0, r3_h_0, q3_h_1, r3_h_1, z3_h, q3_h_1_0, r3_h_1_0, q3_h_1_1, r3_h_1_1, z3_h_1]
            have z4_w3 : w3.heap.size < w4.heap.size := kz4 _ (by first | assumption | (simp; done) | (simp; omega) | omega)
            clear kc4 kf4 kz4 ky4 kx4 kv4 ku4 hb4 q3_h_0 r3_h_0 q3_h_1 r3_h_1 z3_h q3_h_1_0 r3_h_1_0 q3_h_1_1 r3_h_1_1 z3_h_1
            go_wp2_with fail
            refine (whole_is_spec _ _).mono ?_
            rintro e w5 ⟨rfl, rfl⟩
            (go_wp2_with fail; refine (HF2.out _).mono ?_; rintro e w6 ⟨rfl, hb6⟩; (have ha6 : Below w.heap.size w w6 := by (repeat (first | with_reducible exact Below.refl _ _ | with_reducible assumption | with_reducible refine balloc ?_ _ | with_reducible refine bdrew ?_ | with_reducible refine below_drewN ?_ _ | with_reducible refine bset ?_ ?_ _ | with_reducible exact Nat.le_refl _ | with_reducible refine bsize ?_ | (dsimp only; refine Nat.le_trans ?_ (Nat.le_add_right _ _)) | with_reducible refine Nat.le_trans ?_ (Nat.le_add_right _ _) | (with_reducible refine bstep ?_ (by assumption))))); obtain ⟨kc6, kf6, kz6, ky6, kx6, kv6, ku6⟩ := bcell hb6)
            have q6_h_0 : w6.cell? ⟨w.heap.size, 0, none⟩ = some (.int .i64 n) := by rw [kc6 _ _ (by first | assumption | (simp; done) | (simp; omega) | omega)]; simp [go_sem, q4_h_0, r4_h_0, q4_h_1, r4_h_1, z4_h, q4_h_1_0, r4_h_1_0, q4_h_1_1, r4_h_1_1, z4_h_1, q4_w3_0, r4_w3_0, q4_w3_1, r4_w3_1, z4_w3]
            have r6_h_0 : w6.frozen? ⟨w.heap.size, 0, none⟩ = false := by rw [kf6 _ _ (by first | assumption | (simp; done) | (simp; omega) | omega)]; simp [go_sem, q4_h_0, r4_h_0, q4_h_1, r4_h_1, z4_h, q4_h_1_0, r4_h_1_0, q4_h_1_1, r4_h_1_1, z4_h_1, q4_w3_0, r4_w3_0, q4_w3_1, r4_w3_1, z4_w3]
            have q6_h_1 : w6.cell? ⟨w.heap.size, 1, none⟩ = some (.int .i64 d) := by rw [kc6 _ _ (by first | assumption | (simp; done) | (simp; omega) | omega)]; simp [go_sem, q4_h_0, r4_h_0, q4_h_1, r4_h_1, z4_h, q4_h_1_0, r4_h_1_0, q4_h_1_1, r4_h_1_1, z4_h_1, q4_w3_0, r4_w3_0, q4_w3_1, r4_w3_1, z4_w3]
            have r6_h_1 : w6.frozen? ⟨w.heap.size, 1, none⟩ = false := by rw [kf6 _ _ (by first | assumption | (simp; done) | (simp; omega) | omega)]; simp [go_sem, q4_h_0, r4_h_0, q4_h_1, r4_h_1, z4_h, q4_h_1_0, r4_h_1_0, q4_h_1_1, r4_h_1_1, z4_h_1, q4_w3_0, r4_w3_0, q4_w3_1, r4_w3_1, z4_w3]
            have z6_h : w.heap.size < w6.heap.size := kz6 _ (by first | assumption | (simp; done) | (simp; omega) | omega)
            have q6_h_1_0 : w6.cell? ⟨w.heap.size + 1, 0, none⟩ = some (.int .i64 0) := by rw [kc6 _ _ (by first | assumption | (simp; done) | (simp; omega) | omega)]; simp [go_sem, q4_h_0, r4_h_0, q4_h_1, r4_h_1, z4_h, q4_h_1_0, r4_h_1_0, q4_h_1_1, r4_h_1_1, z4_h_1, q4_w3_0, r4_w3_0, q4_w3_1, r4_w3_1, z4_w3]
            have r6_h_1_0 : w6.frozen? ⟨w.heap.size + 1, 0, none⟩ = false := by rw [kf6 _ _ (by first | assumption | (simp; done) | (simp; omega) | omega)]; simp [go_sem, q4_h_0, r4_h_0, q4_h_1, r4_h_1, z4_h, q4_h_1_0, r4_h_1_0, q4_h_1_1, r4_h_1_1, z4_h_1, q4_w3_0, r4_w3_0, q4_w3_1, r4_w3_1, z4_w3]
            have q6_h_1_1 : w6.cell? ⟨w.heap.size + 1, 1, none⟩ = some (.int .i64 0) := by rw [kc6 _ _ (by first | assumption | (simp; done) | (simp; omega) | omega)]; simp [go_sem, q4_h_0, r4_h_0, q4_h_1, r4_h_1, z4_h, q4_h_1_0, r4_h_1_0, q4_h_1_1, r4_h_1_1, z4_h_1, q4_w3_0, r4_w3_0, q4_w3_1, r4_w3_1, z4_w3]
            have r6_h_1_1 : w6.frozen? ⟨w.heap.size + 1, 1, none⟩ = false := by rw [kf6 _ _ (by first | assumption | (simp; done) | (simp; omega) | omega)]; simp [go_sem, q4_h_0, r4_h_0, q4_h_1, r4_h_1, z4_h, q4_h_1_0, r4_h_1_0, q4_h_1_1, r4_h_1_1, z4_h_1, q4_w3_0, r4_w3_0, q4_w3_1, r4_w3_1, z4_w3]
            have z6_h_1 : w.heap.size + 1 < w6.heap.size := kz6 _ (by first | assumption | (simp; done) | (simp; omega) | omega)
            have q6_w3_0 : w6.cell? ⟨w3.heap.size, 0, none⟩ = some (.int .i64 RN) := by rw [kc6 _ _ (by first | assumption | (simp; done) | (simp; omega) | omega)]; simp [go_sem, q4_h_0, r4_h_0, q4_h_1, r4_h_1, z4_h, q4_h_1_0, r4_h_1_0, q4_h_1_1, r4_h_1_1, z4_h_1, q4_w3_0, r4_w3_0, q4_w3_1, r4_w3_1, z4_w3]
            have r6_w3_0 : w6.frozen? ⟨w3.heap.size, 0, none⟩ = false := by rw [kf6 _ _ (by first | assumption | (simp; done) | (simp; omega) | omega)]; simp [go_sem, q4_h_0, r4_h_0, q4_h_1, r4_h_1, z4_h, q4_h_1_0, r4_h_1_0, q4_h_1_1, r4_h_1_1, z4_h_1, q4_w3_0, r4_w3_0, q4_w3_1, r4_w3_1, z4_w3]
            have q6_w3_1 : w6.cell? ⟨w3.heap.size, 1, none⟩ = some (.int .i64 RD) := by rw [kc6 _ _ (by first | assumption | (simp; done) | (simp; omega) | omega)]; simp [go_sem, q4_h_0, r4_h_0, q4_h_1, r4_h_1, z4_h, q4_h_1_0, r4_h_1_0, q4_h_1_1, r4_h_1_1, z4_h_1, q4_w3_0, r4_w3_0, q4_w3_1, r4_w3_1, z4_w3]
            have r6_w3_1 : w6.frozen? ⟨w3.heap.size, 1, none⟩ = false := by rw [kf6 _ _ (by first | assumption | (simp; done) | (simp; omega) | omega)]; simp [go_sem, q4_h_0, r4_h_0, q4_h_1, r4_h_1, z4_h, q4_h_1_0, r4_h_1_0, q4_h_1_1, r4_h_1_1, z4_h_1, q4_w3_0, r4_w3_0, q4_w3_1, r4_w3_1, z4_w3]
            have z6_w3 : w3.heap.size < w6.heap.size := kz6 _ (by first | assumption | (simp; done) | (simp; omega) | omega)
            clear kc6 kf6 kz6 ky6 kx6 kv6 ku6 hb6 q4_h_0 r4_h_0 q4_h_1 r4_h_1 z4_h q4_h_1_0 r4_h_1_0 q4_h_1_1 r4_h_1_1 z4_h_1 q4_w3_0 r4_w3_0 q4_w3_1 r4_w3_1 z4_w3
            (go_wp2_with fail; refine (HC2.out _).mono ?_; rintro e w7 ⟨rfl, hb7⟩; (have ha7 : Below w.heap.size w w7 := by (repeat (first | with_reducible exact Below.refl _ _ | with_reducible assumption | with_reducible refine balloc ?_ _ | with_reducible refine bdrew ?_ | with_reducible refine below_drewN ?_ _ | with_reducible refine bset ?_ ?_ _ | with_reducible exact Nat.le_refl _ | with_reducible refine bsize ?_ | (dsimp only; refine Nat.le_trans ?_ (Nat.le_add_right _ _)) | with_reducible refine Nat.le_trans ?_ (Nat.le_add_right _ _) | (with_reducible refine bstep ?_ (by assumption))))); obtain ⟨kc7, kf7, kz7, ky7, kx7, kv7, ku7⟩ := bcell hb7)
            have q7_h_0 : w7.cell? ⟨w.heap.size, 0, none⟩ = some (.int .i64 n) := by rw [kc7 _ _ (by first | assumption | (simp; done) | (simp; omega) | omega)]; simp [go_sem, q6_h_0, r6_h_0, q6_h_1, r6_h_1, z6_h, q6_h_1_0, r6_h_1_0, q6_h_1_1, r6_h_1_1, z6_h_1, q6_w3_0, r6_w3_0, q6_w3_1, r6_w3_1, z6_w3]
            have r7_h_0 : w7.frozen? ⟨w.heap.size, 0, none⟩ = false := by rw [kf7 _ _ (by first | assumption | (simp; done) | (simp; omega) | omega)]; simp [go_sem, q6_h_0, r6_h_0, q6_h_1, r6_h_1, z6_h, q6_h_1_0, r6_h_1_0, q6_h_1_1, r6_h_1_1, z6_h_1, q6_w3_0, r6_w3_0, q6_w3_1, r6_w3_1, z6_w3]
            have q7_h_1 : w7.cell? ⟨w.heap.size, 1, none⟩ = some (.int .i64 d) := by rw [kc7 _ _ (by first | assumption | (simp; done) | (simp; omega) | omega)]; simp [go_sem, q6_h_0, r6_h_0, q6_h_1, r6_h_1, z6_h, q6_h_1_0, r6_h_1_0, q6_h_1_1, r6_h_1_1, z6_h_1, q6_w3_0, r6_w3_0, q6_w3_1, r6_w3_1, z6_w3]
            have r7_h_1 : w7.frozen? ⟨w.heap.size, 1, none⟩ = false := by rw [kf7 _ _ (by first | assumption | (simp; done) | (simp; omega) | omega)]; simp [go_sem, q6_h_0, r6_h_0, q6_h_1, r6_h_1, z6_h, q6_h_1_0, r6_h_1_0, q6_h_1_1, r6_h_1_1, z6_h_1, q6_w3_0, r6_w3_0, q6_w3_1, r6_w3_1, z6_w3]
            have z7_h : w.heap.size < w7.heap.size := kz7 _ (by first | assumption | (simp; done) | (simp; omega) | omega)
            have q7_h_1_0 : w7.cell? ⟨w.heap.size + 1, 0, none⟩ = some (.int .i64 0) := by rw [kc7 _ _ (by first | assumption | (simp; done) | (simp; omega) | omega)]; simp [go_sem, q6_h_0, r6_h_0, q6_h_1, r6_h_1, z6_h, q6_h_1_0, r6_h_1_0, q6_h_1_1, r6_h_1_1, z6_h_1, q6_w3_0, r6_w3_0, q6_w3_1, r6_w3_1, z6_w3]
            have r7_h_1_0 : w7.frozen? ⟨w.heap.size + 1, 0, none⟩ = false := by rw [kf7 _ _ (by first | assumption | (simp; done) | (simp; omega) | omega)]; simp [go_sem, q6_h_0, r6_h_0, q6_h_1, r6_h_1, z6_h, q6_h_1_0, r6_h_1_0, q6_h_1_1, r6_h_1_1, z6_h_1, q6_w3_0, r6_w3_0, q6_w3_1, r6_w3_1, z6_w3]
            have q7_h_1_1 : w7.cell? ⟨w.heap.size + 1, 1, none⟩ = some (.int .i64 0) := by rw [kc7 _ _ (by first | assumption | (simp; done) | (simp; omega) | omega)]; simp [go_sem, q6_h_0, r6_h_0, q6_h_1, r6_h_1, z6_h, q6_h_1_0, r6_h_1_0, q6_h_1_1, r6_h_1_1, z6_h_1, q6_w3_0, r6_w3_0, q6_w3_1, r6_w3_1, z6_w3]
            have r7_h_1_1 : w7.frozen? ⟨w.heap.size + 1, 1, none⟩ = false := by rw [kf7 _ _ (by first | assumption | (simp; done) | (simp; omega) | omega)]; simp [go_sem, q6_h_0, r6_h_0, q6_h_1, r6_h_1, z6_h, q6_h_1_0, r6_h_1_0, q6_h_1_1, r6_h_1_1, z6_h_1, q6_w3_0, r6_w3_0, q6_w3_1, r6_w3_1, z6_w3]
            have z7_h_1 : w.heap.size + 1 < w7.heap.size := kz7 _ (by first | assumption | (simp; done) | (simp; omega) | omega)
            have q7_w3_0 : w7.cell? ⟨w3.heap.size, 0, none⟩ = some (.int .i64 RN) := by rw [kc7 _ _ (by first | assumption | (simp; done) | (simp; omega) | omega)]; simp [go_sem, q6_h_0, r6_h_0, q6_h_1, r6_h_1, z6_h, q6_h_1_0, r6_h_1_0, q6_h_1_1, r6_h_1_1, z6_h_1, q6_w3_0, r6_w3_0, q6_w3_1, r6_w3_1, z6_w3]
            have r7_w3_0 : w7.frozen? ⟨w3.heap.size, 0, none⟩ = false := by rw [kf7 _ _ (by first | assumption | (simp; done) | (simp; omega) | omega)]; simp [go_sem, q6_h_0, r6_h_0, q6_h_1, r6_h_1, z6_h, q6_h_1_0, r6_h_1_0, q6_h_1_1, r6_h_1_1, z6_h_1, q6_w3_0, r6_w3_0, q6_w3_1, r6_w3_1, z6_w3]
            have q7_w3_1 : w7.cell? ⟨w3.heap.size, 1, none⟩ = some (.int .i64 RD) := by rw [kc7 _ _ (by first | assumption | (simp; done) | (simp; omega) | omega)]; simp [go_sem, q6_h_0, r6_h_0, q6_h_1, r6_h_1, z6_h, q6_h_1_0, r6_h_1_0, q6_h_1_1, r6_h_1_1, z6_h_1, q6_w3_0, r6_w3_0, q6_w3_1, r6_w3_1, z6_w3]
            have r7_w3_1 : w7.frozen? ⟨w3.heap.size, 1, none⟩ = false := by rw [kf7 _ _ (by first | assumption | (simp; done) | (simp; omega) | omega)]; simp [go_sem, q6_h_0, r6_h_0, q6_h_1, r6_h_1, z6_h, q6_h_1_0, r6_h_1_0, q6_h_1_1, r6_h_1_1, z6_h_1, q6_w3_0, r6_w3_0, q6_w3_1, r6_w3_1, z6_w3]
            have z7_w3 : w3.heap.size < w7.heap.size := kz7 _ (by first | assumption | (simp; done) | (simp; omega) | omega)
            clear kc7 kf7 kz7 ky7 kx7 kv7 ku7 hb7 q6_h_0 r6_h_0 q6_h_1 r6_h_1 z6_h q6_h_1_0 r6_h_1_0 q6_h_1_1 r6_h_1_1 z6_h_1 q6_w3_0 r6_w3_0 q6_w3_1 r6_w3_1 z6_w3
            go_wp2
            have wq1 : IntKind.i64.wrap (n * RD) = n * RD := IntWalk.i64_in _ (by omega)
            have wq2 : IntKind.i64.wrap (RN * d) = RN * d := IntWalk.i64_in _ (by clear wq1; omega)
            have wq3 : IntKind.i64.wrap (n * RD - RN * d) = n * RD - RN * d := IntWalk.i64_in _ (by clear wq1 wq2; omega)
            have wq4 : IntKind.i64.wrap (d * RD) = d * RD := IntWalk.i64_in _ (by clear wq1 wq2 wq3; omega)
            go_quiet (fail)
            clear wq1 wq2 wq3 wq4
            (go_wp2_with fail; refine (common_spec _ _ (by omega) (by omega) (by omega) (by omega) _).mono ?_; rintro e w8 ⟨rfl, hb8⟩; rw [hG]; (have ha8 : Below w.heap.size w w8 := by (repeat (first | with_reducible exact Below.refl _ _ | with_reducible assumption | with_reducible refine balloc ?_ _ | with_reducible refine bdrew ?_ | with_reducible refine below_drewN ?_ _ | with_reducible refine bset ?_ ?_ _ | with_reducible exact Nat.le_refl _ | with_reducible refine bsize ?_ | (dsimp only; refine Nat.le_trans ?_ (Nat.le_add_right _ _)) | with_reducible refine Nat.le_trans ?_ (Nat.le_add_right _ _) | (with_reducible refine bstep ?_ (by assumption))))); obtain ⟨kc8, kf8, kz8, ky8, kx8, kv8, ku8⟩ := bcell hb8)
            clear hG
            have q8_h_0 : w8.cell? ⟨w.heap.size, 0, none⟩ = some (.int .i64 n) := by rw [kc8 _ _ (by first | assumption | (simp; done) | (simp; omega) | omega)]; simp [go_sem, q7_h_0, r7_h_0, q7_h_1, r7_h_1, z7_h, q7_h_1_0, r7_h_1_0, q7_h_1_1, r7_h_1_1, z7_h_1, q7_w3_0, r7_w3_0, q7_w3_1, r7_w3_1, z7_w3]
            have r8_h_0 : w8.frozen? ⟨w.heap.size, 0, none⟩ = false := by rw [kf8 _ _ (by first | assumption | (simp; done) | (simp; omega) | omega)]; simp [go_sem, q7_h_0, r7_h_0, q7_h_1, r7_h_1, z7_h, q7_h_1_0, r7_h_1_0, q7_h_1_1, r7_h_1_1, z7_h_1, q7_w3_0, r7_w3_0, q7_w3_1, r7_w3_1, z7_w3]
            have q8_h_1 : w8.cell? ⟨w.heap.size, 1, none⟩ = some (.int .i64 d) := by rw [kc8 _ _ (by first | assumption | (simp; done) | (simp; omega) | omega)]; simp [go_sem, q7_h_0, r7_h_0, q7_h_1, r7_h_1, z7_h, q7_h_1_0, r7_h_1_0, q7_h_1_1, r7_h_1_1, z7_h_1, q7_w3_0, r7_w3_0, q7_w3_1, r7_w3_1, z7_w3]
            have r8_h_1 : w8.frozen? ⟨w.heap.size, 1, none⟩ = false := by rw [kf8 _ _ (by first | assumption | (simp; done) | (simp; omega) | omega)]; simp [go_sem, q7_h_0, r7_h_0, q7_h_1, r7_h_1, z7_h, q7_h_1_0, r7_h_1_0, q7_h_1_1, r7_h_1_1, z7_h_1, q7_w3_0, r7_w3_0, q7_w3_1, r7_w3_1, z7_w3]
            have z8_h : w.heap.size < w8.heap.size := kz8 _ (by first | assumption | (simp; done) | (simp; omega) | omega)
            have q8_h_1_0 : w8.cell? ⟨w.heap.size + 1, 0, none⟩ = some (.int .i64 0) := by rw [kc8 _ _ (by first | assumption | (simp; done) | (simp; omega) | omega)]; simp [go_sem, q7_h_0, r7_h_0, q7_h_1, r7_h_1, z7_h, q7_h_1_0, r7_h_1_0, q7_h_1_1, r7_h_1_1, z7_h_1, q7_w3_0, r7_w3_0, q7_w3_1, r7_w3_1, z7_w3]
            have r8_h_1_0 : w8.frozen? ⟨w.heap.size + 1, 0, none⟩ = false := by rw [kf8 _ _ (by first | assumption | (simp; done) | (simp; omega) | omega)]; simp [go_sem, q7_h_0, r7_h_0, q7_h_1, r7_h_1, z7_h, q7_h_1_0, r7_h_1_0, q7_h_1_1, r7_h_1_1, z7_h_1, q7_w3_0, r7_w3_0, q7_w3_1, r7_w3_1, z7_w3]
            have q8_h_1_1 : w8.cell? ⟨w.heap.size + 1, 1, none⟩ = some (.int .i64 0) := by rw [kc8 _ _ (by first | assumption | (simp; done) | (simp; omega) | omega)]; simp [go_sem, q7_h_0, r7_h_0, q7_h_1, r7_h_1, z7_h, q7_h_1_0, r7_h_1_0, q7_h_1_1, r7_h_1_1, z7_h_1, q7_w3_0, r7_w3_0, q7_w3_1, r7_w3_1, z7_w3]
            have r8_h_1_1 : w8.frozen? ⟨w.heap.size + 1, 1, none⟩ = false := by rw [kf8 _ _ (by first | assumption | (simp; done) | (simp; omega) | omega)]; simp [go_sem, q7_h_0, r7_h_0, q7_h_1, r7_h_1, z7_h, q7_h_1_0, r7_h_1_0, q7_h_1_1, r7_h_1_1, z7_h_1, q7_w3_0, r7_w3_0, q7_w3_1, r7_w3_1, z7_w3]
            have z8_h_1 : w.heap.size + 1 < w8.heap.size := kz8 _ (by first | assumption | (simp; done) | (simp; omega) | omega)
            clear kc8 kf8 kz8 ky8 kx8 kv8 ku8 hb8 q7_h_0 r7_h_0 q7_h_1 r7_h_1 z7_h q7_h_1_0 r7_h_1_0 q7_h_1_1 r7_h_1_1 z7_h_1 q7_w3_0 r7_w3_0 q7_w3_1 r7_w3_1 z7_w3
            (go_wp2_with fail; refine (common_spec _ _ (by omega) (by omega) (by omega) (by omega) _).mono ?_; rintro e w9 ⟨rfl, hb9⟩; rw [hC]; (have ha9 : Below w.heap.size w w9 := by (repeat (first | with_reducible exact Below.refl _ _ | with_reducible assumption | with_reducible refine balloc ?_ _ | with_reducible refine bdrew ?_ | with_reducible refine below_drewN ?_ _ | with_reducible refine bset ?_ ?_ _ | with_reducible exact Nat.le_refl _ | with_reducible refine bsize ?_ | (dsimp only; refine Nat.le_trans ?_ (Nat.le_add_right _ _)) | with_reducible refine Nat.le_trans ?_ (Nat.le_add_right _ _) | (with_reducible refine bstep ?_ (by assumption))))); obtain ⟨kc9, kf9, kz9, ky9, kx9, kv9, ku9⟩ := bcell hb9)
            clear hC
            have q9_h_0 : w9.cell? ⟨w.heap.size, 0, none⟩ = some (.int .i64 n) := by rw [kc9 _ _ (by first | assumption | (simp; done) | (simp; omega) | omega)]; simp [go_sem, q8_h_0, r8_h_0, q8_h_1, r8_h_1, z8_h, q8_h_1_0, r8_h_1_0, q8_h_1_1, r8_h_1_1, z8_h_1]
            have r9_h_0 : w9.frozen? ⟨w.heap.size, 0, none⟩ = false := by rw [kf9 _ _ (by first | assumption | (simp; done) | (simp; omega) | omega)]; simp [go_sem, q8_h_0, r8_h_0, q8_h_1, r8_h_1, z8_h, q8_h_1_0, r8_h_1_0, q8_h_1_1, r8_h_1_1, z8_h_1]
            have q9_h_1 : w9.cell? ⟨w.heap.size, 1, none⟩ = some (.int .i64 d) := by rw [kc9 _ _ (by first | assumption | (simp; done) | (simp; omega) | omega)]; simp [go_sem, q8_h_0, r8_h_0, q8_h_1, r8_h_1, z8_h, q8_h_1_0, r8_h_1_0, q8_h_1_1, r8_h_1_1, z8_h_1]
            have r9_h_1 : w9.frozen? ⟨w.heap.size, 1, none⟩ = false := by rw [kf9 _ _ (by first | assumption | (simp; done) | (simp; omega) | omega)]; simp [go_sem, q8_h_0, r8_h_0, q8_h_1, r8_h_1, z8_h, q8_h_1_0, r8_h_1_0, q8_h_1_1, r8_h_1_1, z8_h_1]
            have z9_h : w.heap.size < w9.heap.size := kz9 _ (by first | assumption | (simp; done) | (simp; omega) | omega)
            have q9_h_1_0 : w9.cell? ⟨w.heap.size + 1, 0, none⟩ = some (.int .i64 0) := by rw [kc9 _ _ (by first | assumption | (simp; done) | (simp; omega) | omega)]; simp [go_sem, q8_h_0, r8_h_0, q8_h_1, r8_h_1, z8_h, q8_h_1_0, r8_h_1_0, q8_h_1_1, r8_h_1_1, z8_h_1]
            have r9_h_1_0 : w9.frozen? ⟨w.heap.size + 1, 0, none⟩ = false := by rw [kf9 _ _ (by first | assumption | (simp; done) | (simp; omega) | omega)]; simp [go_sem, q8_h_0, r8_h_0, q8_h_1, r8_h_1, z8_h, q8_h_1_0, r8_h_1_0, q8_h_1_1, r8_h_1_1, z8_h_1]
            have q9_h_1_1 : w9.cell? ⟨w.heap.size + 1, 1, none⟩ = some (.int .i64 0) := by rw [kc9 _ _ (by first | assumption | (simp; done) | (simp; omega) | omega)]; simp [go_sem, q8_h_0, r8_h_0, q8_h_1, r8_h_1, z8_h, q8_h_1_0, r8_h_1_0, q8_h_1_1, r8_h_1_1, z8_h_1]
            have r9_h_1_1 : w9.frozen? ⟨w.heap.size + 1, 1, none⟩ = false := by rw [kf9 _ _ (by first | assumption | (simp; done) | (simp; omega) | omega)]; simp [go_sem, q8_h_0, r8_h_0, q8_h_1, r8_h_1, z8_h, q8_h_1_0, r8_h_1_0, q8_h_1_1, r8_h_1_1, z8_h_1]
            have z9_h_1 : w.heap.size + 1 < w9.heap.size := kz9 _ (by first | assumption | (simp; done) | (simp; omega) | omega)
            clear kc9 kf9 kz9 ky9 kx9 kv9 ku9 hb9 q8_h_0 r8_h_0 q8_h_1 r8_h_1 z8_h q8_h_1_0 r8_h_1_0 q8_h_1_1 r8_h_1_1 z8_h_1
            by_cases hbig : 1000000000 < W
            · have HZ := Lib.hid (HM.out.2.2.2 hbig)
              clear HM
              go_wp2
              rw [HZ.out.1, HZ.out.2.1, HZ.out.2.2]
              refine bodyPost_ret (v := .tuple #[.agg #[.int .i64 0, .int .i64 0], .bool false]) (by simp only [results, Try.results43]; go_simp) rfl ⟨rfl, ?_⟩
              (repeat (first | with_reducible exact Below.refl _ _ | with_reducible assumption | with_reducible refine balloc ?_ _ | with_reducible refine bdrew ?_ | with_reducible refine below_drewN ?_ _ | with_reducible refine bset ?_ ?_ _ | with_reducible exact Nat.le_refl _ | with_reducible refine bsize ?_ | (dsimp only; refine Nat.le_trans ?_ (Nat.le_add_right _ _)) | with_reducible refine Nat.le_trans ?_ (Nat.le_add_right _ _) | (with_reducible refine bstep ?_ (by assumption))))
            · have HZ := Lib.hid (And.intro HM.out.1 (And.intro HM.out.2.1 HM.out.2.2.1))
              clear HM
              (go_wp2_with fail; refine (make_spec _ _ (by omega) (by omega) (by omega) (by omega) _).mono ?_; rintro e w10 ⟨rfl, hb10⟩; (have ha10 : Below w.heap.size w w10 := by (repeat (first | with_reducible exact Below.refl _ _ | with_reducible assumption | with_reducible refine balloc ?_ _ | with_reducible refine bdrew ?_ | with_reducible refine below_drewN ?_ _ | with_reducible refine bset ?_ ?_ _ | with_reducible exact Nat.le_refl _ | with_reducible refine bsize ?_ | (dsimp only; refine Nat.le_trans ?_ (Nat.le_add_right _ _)) | with_reducible refine Nat.le_trans ?_ (Nat.le_add_right _ _) | (with_reducible refine bstep ?_ (by assumption))))); obtain ⟨kc10, kf10, kz10, ky10, kx10, kv10, ku10⟩ := bcell hb10)
              have q10_h_0 : w10.cell? ⟨w.heap.size, 0, none⟩ = some (.int .i64 n) := by rw [kc10 _ _ (by first | assumption | (simp; done) | (simp; omega) | omega)]; simp [go_sem, q9_h_0, r9_h_0, q9_h_1, r9_h_1, z9_h, q9_h_1_0, r9_h_1_0, q9_h_1_1, r9_h_1_1, z9_h_1]
              have r10_h_0 : w10.frozen? ⟨w.heap.size, 0, none⟩ = false := by rw [kf10 _ _ (by first | assumption | (simp; done) | (simp; omega) | omega)]; simp [go_sem, q9_h_0, r9_h_0, q9_h_1, r9_h_1, z9_h, q9_h_1_0, r9_h_1_0, q9_h_1_1, r9_h_1_1, z9_h_1]
              have q10_h_1 : w10.cell? ⟨w.heap.size, 1, none⟩ = some (.int .i64 d) := by rw [kc10 _ _ (by first | assumption | (simp; done) | (simp; omega) | omega)]; simp [go_sem, q9_h_0, r9_h_0, q9_h_1, r9_h_1, z9_h, q9_h_1_0, r9_h_1_0, q9_h_1_1, r9_h_1_1, z9_h_1]
              have r10_h_1 : w10.frozen? ⟨w.heap.size, 1, none⟩ = false := by rw [kf10 _ _ (by first | assumption | (simp; done) | (simp; omega) | omega)]; simp [go_sem, q9_h_0, r9_h_0, q9_h_1, r9_h_1, z9_h, q9_h_1_0, r9_h_1_0, q9_h_1_1, r9_h_1_1, z9_h_1]
              have z10_h : w.heap.size < w10.heap.size := kz10 _ (by first | assumption | (simp; done) | (simp; omega) | omega)
              have q10_h_1_0 : w10.cell? ⟨w.heap.size + 1, 0, none⟩ = some (.int .i64 0) := by rw [kc10 _ _ (by first | assumption | (simp; done) | (simp; omega) | omega)]; simp [go_sem, q9_h_0, r9_h_0, q9_h_1, r9_h_1, z9_h, q9_h_1_0, r9_h_1_0, q9_h_1_1, r9_h_1_1, z9_h_1]
              have r10_h_1_0 : w10.frozen? ⟨w.heap.size + 1, 0, none⟩ = false := by rw [kf10 _ _ (by first | assumption | (simp; done) | (simp; omega) | omega)]; simp [go_sem, q9_h_0, r9_h_0, q9_h_1, r9_h_1, z9_h, q9_h_1_0, r9_h_1_0, q9_h_1_1, r9_h_1_1, z9_h_1]
              have q10_h_1_1 : w10.cell? ⟨w.heap.size + 1, 1, none⟩ = some (.int .i64 0) := by rw [kc10 _ _ (by first | assumption | (simp; done) | (simp; omega) | omega)]; simp [go_sem, q9_h_0, r9_h_0, q9_h_1, r9_h_1, z9_h, q9_h_1_0, r9_h_1_0, q9_h_1_1, r9_h_1_1, z9_h_1]
              have r10_h_1_1 : w10.frozen? ⟨w.heap.size + 1, 1, none⟩ = false := by rw [kf10 _ _ (by first | assumption | (simp; done) | (simp; omega) | omega)]; simp [go_sem, q9_h_0, r9_h_0, q9_h_1, r9_h_1, z9_h, q9_h_1_0, r9_h_1_0, q9_h_1_1, r9_h_1_1, z9_h_1]
              have z10_h_1 : w.heap.size + 1 < w10.heap.size := kz10 _ (by first | assumption | (simp; done) | (simp; omega) | omega)
              clear kc10 kf10 kz10 ky10 kx10 kv10 ku10 hb10 q9_h_0 r9_h_0 q9_h_1 r9_h_1 z9_h q9_h_1_0 r9_h_1_0 q9_h_1_1 r9_h_1_1 z9_h_1
              go_wp2
              rw [HZ.out.1, HZ.out.2.1, HZ.out.2.2]
              refine bodyPost_ret (v := .tuple #[.agg #[.int .i64 (lowN ((k : Int) * W + U * E) W), .int .i64 (lowD ((k : Int) * W + U * E) W)], .bool (lowB ((k : Int) * W + U * E) W)]) (by simp only [results, Try.results43]; go_simp) rfl ⟨rfl, ?_⟩
              (repeat (first | with_reducible exact Below.refl _ _ | with_reducible assumption | with_reducible refine balloc ?_ _ | with_reducible refine bdrew ?_ | with_reducible refine below_drewN ?_ _ | with_reducible refine bset ?_ ?_ _ | with_reducible exact Nat.le_refl _ | with_reducible refine bsize ?_ | (dsimp only; refine Nat.le_trans ?_ (Nat.le_add_right _ _)) | with_reducible refine Nat.le_trans ?_ (Nat.le_add_right _ _) | (with_reducible refine bstep ?_ (by assumption))))
end Go.Proofs.Ytbhdnocdpincpaa
