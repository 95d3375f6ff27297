/- The walk of the law FnExactIsClue: it answers as the model does, at every number of miles and every clue. No condition. -/
import Derived.Test.YthhmmdapoaeeiaaPzI
import Derived.Test.YthhmmdapoaeeiaaPzS
import Derived.Deep.RegionHeld3
import Derived.Deep.DeepCutAuto
namespace Go.Proofs.Ythhmmdapoaeeiaa
open Go.ChangeShapes Go.WideShapes Go.ChangeAt Go.RowKit Go.Joins
set_option maxRecDepth 100000
set_option linter.unusedVariables false
set_option linter.unusedSimpArgs false


set_option maxHeartbeats 3200000 in
theorem isClue_walk (m : Int) (bm : (-9223372036854775808 ≤ m ∧ m ≤ 9223372036854775807)) (k a b : Int) (bk : (-9223372036854775808 ≤ k ∧ k ≤ 9223372036854775807)) (ba : (-9223372036854775808 ≤ a ∧ a ≤ 9223372036854775807)) (bb : (-9223372036854775808 ≤ b ∧ b ≤ 9223372036854775807)) (w : World) :
    Calls Try.prog 3 #[.int .i64 m, .agg #[.int .i64 k, .int .i64 a, .int .i64 b]] w fun e' w' => e' = .returned (.bool true) ∧ Below w.heap.size w w' := by
  have HS := Lib.hid (fun W => isCl_spec m k a b W)
  have HI := Lib.hid (fun W => isCl_impl m k a b bm bk ba bb W)
  generalize clueB m k a b = R at *
  go_enter Try.func3, Try.ntmps3
  (go_wp2_with fail; refine (toClue _ _ _ _).mono ?_; rintro e w1 ⟨rfl, hb1⟩; (have ha1 : Below w.heap.size w w1 := by (repeat (first | with_reducible exact Below.refl _ _ | with_reducible assumption | with_reducible refine balloc ?_ _ | with_reducible refine bdrew ?_ | with_reducible refine below_drewN ?_ _ | with_reducible refine bset ?_ ?_ _ | with_reducible exact Nat.le_refl _ | with_reducible refine bsize ?_ | (dsimp only; refine Nat.le_trans ?_ (Nat.le_add_right _ _)) | with_reducible refine Nat.le_trans ?_ (Nat.le_add_right _ _) | (with_reducible refine bstep ?_ (by assumption))))); obtain ⟨kc1, kf1, kz1, ky1, kx1, kv1, ku1⟩ := bcell hb1)
  have q1_h_0 : w1.cell? ⟨w.heap.size, 0, none⟩ = some (.int .i64 k) := by rw [kc1 _ _ (by first | assumption | (simp; done) | (simp; omega) | omega)]; simp [go_sem]
  have r1_h_0 : w1.frozen? ⟨w.heap.size, 0, none⟩ = false := by rw [kf1 _ _ (by first | assumption | (simp; done) | (simp; omega) | omega)]; simp [go_sem]
  have q1_h_1 : w1.cell? ⟨w.heap.size, 1, none⟩ = some (.int .i64 a) := by rw [kc1 _ _ (by first | assumption | (simp; done) | (simp; omega) | omega)]; simp [go_sem]
  have r1_h_1 : w1.frozen? ⟨w.heap.size, 1, none⟩ = false := by rw [kf1 _ _ (by first | assumption | (simp; done) | (simp; omega) | omega)]; simp [go_sem]
  have q1_h_2 : w1.cell? ⟨w.heap.size, 2, none⟩ = some (.int .i64 b) := by rw [kc1 _ _ (by first | assumption | (simp; done) | (simp; omega) | omega)]; simp [go_sem]
  have r1_h_2 : w1.frozen? ⟨w.heap.size, 2, none⟩ = false := by rw [kf1 _ _ (by first | assumption | (simp; done) | (simp; omega) | omega)]; simp [go_sem]
  have z1_h : w.heap.size < w1.heap.size := kz1 _ (by first | assumption | (simp; done) | (simp; omega) | omega)
  clear kc1 kf1 kz1 ky1 kx1 kv1 ku1 hb1
  (go_wp2_with fail; refine (HS.out _).mono ?_; rintro e w2 ⟨rfl, hb2⟩; (have ha2 : Below w.heap.size w w2 := by (repeat (first | with_reducible exact Below.refl _ _ | with_reducible assumption | with_reducible refine balloc ?_ _ | with_reducible refine bdrew ?_ | with_reducible refine below_drewN ?_ _ | with_reducible refine bset ?_ ?_ _ | with_reducible exact Nat.le_refl _ | with_reducible refine bsize ?_ | (dsimp only; refine Nat.le_trans ?_ (Nat.le_add_right _ _)) | with_reducible refine Nat.le_trans ?_ (Nat.le_add_right _ _) | (with_reducible refine bstep ?_ (by assumption))))); obtain ⟨kc2, kf2, kz2, ky2, kx2, kv2, ku2⟩ := bcell hb2)
  have q2_h_0 : w2.cell? ⟨w.heap.size, 0, none⟩ = some (.int .i64 k) := by rw [kc2 _ _ (by first | assumption | (simp; done) | (simp; omega) | omega)]; simp [go_sem, q1_h_0, r1_h_0, q1_h_1, r1_h_1, q1_h_2, r1_h_2, z1_h]
  have r2_h_0 : w2.frozen? ⟨w.heap.size, 0, none⟩ = false := by rw [kf2 _ _ (by first | assumption | (simp; done) | (simp; omega) | omega)]; simp [go_sem, q1_h_0, r1_h_0, q1_h_1, r1_h_1, q1_h_2, r1_h_2, z1_h]
  have q2_h_1 : w2.cell? ⟨w.heap.size, 1, none⟩ = some (.int .i64 a) := by rw [kc2 _ _ (by first | assumption | (simp; done) | (simp; omega) | omega)]; simp [go_sem, q1_h_0, r1_h_0, q1_h_1, r1_h_1, q1_h_2, r1_h_2, z1_h]
  have r2_h_1 : w2.frozen? ⟨w.heap.size, 1, none⟩ = false := by rw [kf2 _ _ (by first | assumption | (simp; done) | (simp; omega) | omega)]; simp [go_sem, q1_h_0, r1_h_0, q1_h_1, r1_h_1, q1_h_2, r1_h_2, z1_h]
  have q2_h_2 : w2.cell? ⟨w.heap.size, 2, none⟩ = some (.int .i64 b) := by rw [kc2 _ _ (by first | assumption | (simp; done) | (simp; omega) | omega)]; simp [go_sem, q1_h_0, r1_h_0, q1_h_1, r1_h_1, q1_h_2, r1_h_2, z1_h]
  have r2_h_2 : w2.frozen? ⟨w.heap.size, 2, none⟩ = false := by rw [kf2 _ _ (by first | assumption | (simp; done) | (simp; omega) | omega)]; simp [go_sem, q1_h_0, r1_h_0, q1_h_1, r1_h_1, q1_h_2, r1_h_2, z1_h]
  have z2_h : w.heap.size < w2.heap.size := kz2 _ (by first | assumption | (simp; done) | (simp; omega) | omega)
  clear kc2 kf2 kz2 ky2 kx2 kv2 ku2 hb2 q1_h_0 r1_h_0 q1_h_1 r1_h_1 q1_h_2 r1_h_2 z1_h
  (go_wp2_with fail; refine (toClue _ _ _ _).mono ?_; rintro e w3 ⟨rfl, hb3⟩; (have ha3 : Below w.heap.size w w3 := by (repeat (first | with_reducible exact Below.refl _ _ | with_reducible assumption | with_reducible refine balloc ?_ _ | with_reducible refine bdrew ?_ | with_reducible refine below_drewN ?_ _ | with_reducible refine bset ?_ ?_ _ | with_reducible exact Nat.le_refl _ | with_reducible refine bsize ?_ | (dsimp only; refine Nat.le_trans ?_ (Nat.le_add_right _ _)) | with_reducible refine Nat.le_trans ?_ (Nat.le_add_right _ _) | (with_reducible refine bstep ?_ (by assumption))))); obtain ⟨kc3, kf3, kz3, ky3, kx3, kv3, ku3⟩ := bcell hb3)
  have q3_h_0 : w3.cell? ⟨w.heap.size, 0, none⟩ = some (.int .i64 k) := by rw [kc3 _ _ (by first | assumption | (simp; done) | (simp; omega) | omega)]; simp [go_sem, q2_h_0, r2_h_0, q2_h_1, r2_h_1, q2_h_2, r2_h_2, z2_h]
  have r3_h_0 : w3.frozen? ⟨w.heap.size, 0, none⟩ = false := by rw [kf3 _ _ (by first | assumption | (simp; done) | (simp; omega) | omega)]; simp [go_sem, q2_h_0, r2_h_0, q2_h_1, r2_h_1, q2_h_2, r2_h_2, z2_h]
  have q3_h_1 : w3.cell? ⟨w.heap.size, 1, none⟩ = some (.int .i64 a) := by rw [kc3 _ _ (by first | assumption | (simp; done) | (simp; omega) | omega)]; simp [go_sem, q2_h_0, r2_h_0, q2_h_1, r2_h_1, q2_h_2, r2_h_2, z2_h]
  have r3_h_1 : w3.frozen? ⟨w.heap.size, 1, none⟩ = false := by rw [kf3 _ _ (by first | assumption | (simp; done) | (simp; omega) | omega)]; simp [go_sem, q2_h_0, r2_h_0, q2_h_1, r2_h_1, q2_h_2, r2_h_2, z2_h]
  have q3_h_2 : w3.cell? ⟨w.heap.size, 2, none⟩ = some (.int .i64 b) := by rw [kc3 _ _ (by first | assumption | (simp; done) | (simp; omega) | omega)]; simp [go_sem, q2_h_0, r2_h_0, q2_h_1, r2_h_1, q2_h_2, r2_h_2, z2_h]
  have r3_h_2 : w3.frozen? ⟨w.heap.size, 2, none⟩ = false := by rw [kf3 _ _ (by first | assumption | (simp; done) | (simp; omega) | omega)]; simp [go_sem, q2_h_0, r2_h_0, q2_h_1, r2_h_1, q2_h_2, r2_h_2, z2_h]
  have z3_h : w.heap.size < w3.heap.size := kz3 _ (by first | assumption | (simp; done) | (simp; omega) | omega)
  clear kc3 kf3 kz3 ky3 kx3 kv3 ku3 hb3 q2_h_0 r2_h_0 q2_h_1 r2_h_1 q2_h_2 r2_h_2 z2_h
  (go_wp2_with fail; refine (HI.out _).mono ?_; rintro e w4 ⟨rfl, hb4⟩; (have ha4 : Below w.heap.size w w4 := by (repeat (first | with_reducible exact Below.refl _ _ | with_reducible assumption | with_reducible refine balloc ?_ _ | with_reducible refine bdrew ?_ | with_reducible refine below_drewN ?_ _ | with_reducible refine bset ?_ ?_ _ | with_reducible exact Nat.le_refl _ | with_reducible refine bsize ?_ | (dsimp only; refine Nat.le_trans ?_ (Nat.le_add_right _ _)) | with_reducible refine Nat.le_trans ?_ (Nat.le_add_right _ _) | (with_reducible refine bstep ?_ (by assumption))))); obtain ⟨kc4, kf4, kz4, ky4, kx4, kv4, ku4⟩ := bcell hb4)
  have q4_h_0 : w4.cell? ⟨w.heap.size, 0, none⟩ = some (.int .i64 k) := by rw [kc4 _ _ (by first | assumption | (simp; done) | (simp; omega) | omega)]; simp [go_sem, q3_h_0, r3_h_0, q3_h_1, r3_h_1, q3_h_2, r3_h_2, z3_h]
  have r4_h_0 : w4.frozen? ⟨w.heap.size, 0, none⟩ = false := by rw [kf4 _ _ (by first | assumption | (simp; done) | (simp; omega) | omega)]; simp [go_sem, q3_h_0, r3_h_0, q3_h_1, r3_h_1, q3_h_2, r3_h_2, z3_h]
  have q4_h_1 : w4.cell? ⟨w.heap.size, 1, none⟩ = some (.int .i64 a) := by rw [kc4 _ _ (by first | assumption | (simp; done) | (simp; omega) | omega)]; simp [go_sem, q3_h_0, r3_h_0, q3_h_1, r3_h_1, q3_h_2, r3_h_2, z3_h]
  have r4_h_1 : w4.frozen? ⟨w.heap.size, 1, none⟩ = false := by rw [kf4 _ _ (by first | assumption | (simp; done) | (simp; omega) | omega)]; simp [go_sem, q3_h_0, r3_h_0, q3_h_1, r3_h_1, q3_h_2, r3_h_2, z3_h]
  have q4_h_2 : w4.cell? ⟨w.heap.size, 2, none⟩ = some (.int .i64 b) := by rw [kc4 _ _ (by first | assumption | (simp; done) | (simp; omega) | omega)]; simp [go_sem, q3_h_0, r3_h_0, q3_h_1, r3_h_1, q3_h_2, r3_h_2, z3_h]
  have r4_h_2 : w4.frozen? ⟨w.heap.size, 2, none⟩ = false := by rw [kf4 _ _ (by first | assumption | (simp; done) | (simp; omega) | omega)]; simp [go_sem, q3_h_0, r3_h_0, q3_h_1, r3_h_1, q3_h_2, r3_h_2, z3_h]
  have z4_h : w.heap.size < w4.heap.size := kz4 _ (by first | assumption | (simp; done) | (simp; omega) | omega)
  clear kc4 kf4 kz4 ky4 kx4 kv4 ku4 hb4 q3_h_0 r3_h_0 q3_h_1 r3_h_1 q3_h_2 r3_h_2 z3_h
  go_wp2
  go_ret
  exact ⟨rfl, ha4⟩
end Go.Proofs.Ythhmmdapoaeeiaa
