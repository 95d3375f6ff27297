/- The trial of a clue, of the program. -/
import Derived.Test.YthhmmdapoaeeiaaPzB
import Derived.Test.YthhmmdapoaeeiaaBlk
import Derived.Deep.RegionHeld3
import Derived.Deep.DeepCutAuto
namespace Go.Proofs.Ythhmmdapoaeeiaa
open Go.ChangeShapes Go.WideShapes Go.ChangeAt Go.RowKit Go.Joins
set_option maxRecDepth 100000
set_option linter.unusedVariables false
set_option linter.unusedSimpArgs false


/-- The closure that tries a clue of a kind. -/
def trV (k : Int) (g gm : Nat) : Value :=
  if k = 0 then .func (.func 40) #[] #[.pointer (some ⟨g, 0, none⟩)] else if k = 1 then .func (.func 42) #[] #[.pointer (some ⟨g, 0, none⟩)] else if k = 2 then .func (.func 43) #[] #[.pointer (some ⟨g, 0, none⟩)] else if k = 3 then .func (.func 44) #[] #[.pointer (some ⟨gm, 0, none⟩), .pointer (some ⟨g, 0, none⟩)] else if k = 4 then .func (.func 46) #[] #[.pointer (some ⟨gm, 0, none⟩), .pointer (some ⟨g, 0, none⟩)] else .func (.func 47) #[] #[.pointer (some ⟨gm, 0, none⟩), .pointer (some ⟨g, 0, none⟩)]
/-- A trial: its clue and its miles lie in the boxes that it took. -/
def TrialAt (m : Int) (p : ClueV) (v : Value) (W : World) : Prop :=
  ∃ g gm : Nat, Blk g #[.int .i64 p.k, .int .i64 p.a, .int .i64 p.b] 25 W ∧ Blk gm #[.int .i64 m] 3 W ∧ v = trV p.k g gm
theorem TrialAt.later {m : Int} {p : ClueV} {v : Value} {W W' : World} (h : TrialAt m p v W) (hb : Below W.heap.size W W') : TrialAt m p v W' := by
  obtain ⟨g, gm, h1, h2, e⟩ := h
  exact ⟨g, gm, h1.later hb, h2.later hb, e⟩
theorem TrialAt.grown {m : Int} {p : ClueV} {u : Value} {W W' : World} (h : TrialAt m p u W) {base n : Nat} {v : Value} {xs : List Value} (ho : W.ownsRow base 58 1 v n xs) (hg : W.grownBy W' v.ownBlock) : TrialAt m p u W' := by
  obtain ⟨g, gm, h1, h2, e⟩ := h
  exact ⟨g, gm, h1.grown hg (h1.ne_row ho (by decide)), h2.grown hg (h2.ne_row ho (by decide)), e⟩
theorem TrialAt.shape {m : Int} {p : ClueV} {v : Value} {W : World} (h : TrialAt m p v W) : ∃ f cs, v = .func (.func f) #[] cs := by
  obtain ⟨g, gm, _, _, rfl⟩ := h
  unfold trV
  repeat' split
  all_goals exact ⟨_, _, rfl⟩
set_option maxHeartbeats 3200000 in
theorem tr_yes_0 (m a b : Int) (hm : 1 ≤ m ∧ m ≤ 10) (h : ofB 0 a b 0 1 (m - 1) 0 = true) (w : World) :
    Calls Try.prog 36 #[.agg #[.int .i64 0, .int .i64 a, .int .i64 b], .int .i64 m] w fun e w' => ∃ v, e = .returned v ∧ TrialAt m ⟨0, a, b⟩ v w' ∧ Below w.heap.size w w' := by
  have hmf : ∀ (fn : Fn) (first cap : Array Value) (w : World), (Instr.makeFunc fn first cap).run Try.prog w = .ok (.func fn first cap) w := fun _ _ _ _ => rfl
  go_enter Try.func36, Try.ntmps36
  (go_wp2_with fail; refine (isOf_impl _ _ _ _ _ _ _ _).mono ?_; rintro e w1 ⟨rfl, hb1⟩; rw [h]; (have ha1 : Below w.heap.size w w1 := by (repeat (first | with_reducible exact Below.refl _ _ | with_reducible assumption | with_reducible refine balloc ?_ _ | with_reducible refine bdrew ?_ | with_reducible refine below_drewN ?_ _ | with_reducible refine bset ?_ ?_ _ | with_reducible exact Nat.le_refl _ | with_reducible refine bsize ?_ | (dsimp only; refine Nat.le_trans ?_ (Nat.le_add_right _ _)) | with_reducible refine Nat.le_trans ?_ (Nat.le_add_right _ _) | (with_reducible refine bstep ?_ (by assumption))))); obtain ⟨kc1, kf1, kz1, ky1, kx1, kv1, ku1⟩ := bcell hb1)
  have fA1 : Blk w.heap.size #[.int .i64 0, .int .i64 a, .int .i64 b] 25 w1 := ((Blk.new w _ _).alloc _).later hb1
  have fB1 : Blk (w.heap.size + 1) #[.int .i64 m] 3 w1 := Blk.later (by have h := Blk.new (w.alloc (.cells #[.int .i64 0, .int .i64 a, .int .i64 b] 25)) #[.int .i64 m] 3; rw [World.size_alloc] at h; exact h) hb1
  have q1_h_0 : w1.cell? ⟨w.heap.size, 0, none⟩ = some (.int .i64 0) := by rw [kc1 _ _ (by first | assumption | (simp; done) | (simp; omega) | omega)]; simp [go_sem]
  have r1_h_0 : w1.frozen? ⟨w.heap.size, 0, none⟩ = false := by rw [kf1 _ _ (by first | assumption | (simp; done) | (simp; omega) | omega)]; simp [go_sem]
  have q1_h_1 : w1.cell? ⟨w.heap.size, 1, none⟩ = some (.int .i64 a) := by rw [kc1 _ _ (by first | assumption | (simp; done) | (simp; omega) | omega)]; simp [go_sem]
  have r1_h_1 : w1.frozen? ⟨w.heap.size, 1, none⟩ = false := by rw [kf1 _ _ (by first | assumption | (simp; done) | (simp; omega) | omega)]; simp [go_sem]
  have q1_h_2 : w1.cell? ⟨w.heap.size, 2, none⟩ = some (.int .i64 b) := by rw [kc1 _ _ (by first | assumption | (simp; done) | (simp; omega) | omega)]; simp [go_sem]
  have r1_h_2 : w1.frozen? ⟨w.heap.size, 2, none⟩ = false := by rw [kf1 _ _ (by first | assumption | (simp; done) | (simp; omega) | omega)]; simp [go_sem]
  have z1_h : w.heap.size < w1.heap.size := kz1 _ (by first | assumption | (simp; done) | (simp; omega) | omega)
  have q1_h_1_0 : w1.cell? ⟨w.heap.size + 1, 0, none⟩ = some (.int .i64 m) := by rw [kc1 _ _ (by first | assumption | (simp; done) | (simp; omega) | omega)]; simp [go_sem]
  have r1_h_1_0 : w1.frozen? ⟨w.heap.size + 1, 0, none⟩ = false := by rw [kf1 _ _ (by first | assumption | (simp; done) | (simp; omega) | omega)]; simp [go_sem]
  have z1_h_1 : w.heap.size + 1 < w1.heap.size := kz1 _ (by first | assumption | (simp; done) | (simp; omega) | omega)
  clear kc1 kf1 kz1 ky1 kx1 kv1 ku1 hb1
  go_wp2
  go_ret
  exact ⟨_, rfl, ⟨w.heap.size, w.heap.size + 1, fA1, fB1, rfl⟩, by (repeat (first | with_reducible exact Below.refl _ _ | with_reducible assumption | with_reducible refine balloc ?_ _ | with_reducible refine bdrew ?_ | with_reducible refine below_drewN ?_ _ | with_reducible refine bset ?_ ?_ _ | with_reducible exact Nat.le_refl _ | with_reducible refine bsize ?_ | (dsimp only; refine Nat.le_trans ?_ (Nat.le_add_right _ _)) | with_reducible refine Nat.le_trans ?_ (Nat.le_add_right _ _) | (with_reducible refine bstep ?_ (by assumption))))⟩
set_option maxHeartbeats 3200000 in
theorem tr_yes_1 (m a b : Int) (hm : 1 ≤ m ∧ m ≤ 10) (h : ofB 1 a b 1 1 (m - 1) 0 = true) (w : World) :
    Calls Try.prog 36 #[.agg #[.int .i64 1, .int .i64 a, .int .i64 b], .int .i64 m] w fun e w' => ∃ v, e = .returned v ∧ TrialAt m ⟨1, a, b⟩ v w' ∧ Below w.heap.size w w' := by
  have hmf : ∀ (fn : Fn) (first cap : Array Value) (w : World), (Instr.makeFunc fn first cap).run Try.prog w = .ok (.func fn first cap) w := fun _ _ _ _ => rfl
  have n0 : ofB 1 a b 0 1 (m - 1) 0 = false := ofB_ne (by decide)
  go_enter Try.func36, Try.ntmps36
  (go_wp2_with fail; refine (isOf_impl _ _ _ _ _ _ _ _).mono ?_; rintro e w1 ⟨rfl, hb1⟩; rw [n0]; (have ha1 : Below w.heap.size w w1 := by (repeat (first | with_reducible exact Below.refl _ _ | with_reducible assumption | with_reducible refine balloc ?_ _ | with_reducible refine bdrew ?_ | with_reducible refine below_drewN ?_ _ | with_reducible refine bset ?_ ?_ _ | with_reducible exact Nat.le_refl _ | with_reducible refine bsize ?_ | (dsimp only; refine Nat.le_trans ?_ (Nat.le_add_right _ _)) | with_reducible refine Nat.le_trans ?_ (Nat.le_add_right _ _) | (with_reducible refine bstep ?_ (by assumption))))); obtain ⟨kc1, kf1, kz1, ky1, kx1, kv1, ku1⟩ := bcell hb1)
  have fA1 : Blk w.heap.size #[.int .i64 1, .int .i64 a, .int .i64 b] 25 w1 := ((Blk.new w _ _).alloc _).later hb1
  have fB1 : Blk (w.heap.size + 1) #[.int .i64 m] 3 w1 := Blk.later (by have h := Blk.new (w.alloc (.cells #[.int .i64 1, .int .i64 a, .int .i64 b] 25)) #[.int .i64 m] 3; rw [World.size_alloc] at h; exact h) hb1
  have q1_h_0 : w1.cell? ⟨w.heap.size, 0, none⟩ = some (.int .i64 1) := by rw [kc1 _ _ (by first | assumption | (simp; done) | (simp; omega) | omega)]; simp [go_sem]
  have r1_h_0 : w1.frozen? ⟨w.heap.size, 0, none⟩ = false := by rw [kf1 _ _ (by first | assumption | (simp; done) | (simp; omega) | omega)]; simp [go_sem]
  have q1_h_1 : w1.cell? ⟨w.heap.size, 1, none⟩ = some (.int .i64 a) := by rw [kc1 _ _ (by first | assumption | (simp; done) | (simp; omega) | omega)]; simp [go_sem]
  have r1_h_1 : w1.frozen? ⟨w.heap.size, 1, none⟩ = false := by rw [kf1 _ _ (by first | assumption | (simp; done) | (simp; omega) | omega)]; simp [go_sem]
  have q1_h_2 : w1.cell? ⟨w.heap.size, 2, none⟩ = some (.int .i64 b) := by rw [kc1 _ _ (by first | assumption | (simp; done) | (simp; omega) | omega)]; simp [go_sem]
  have r1_h_2 : w1.frozen? ⟨w.heap.size, 2, none⟩ = false := by rw [kf1 _ _ (by first | assumption | (simp; done) | (simp; omega) | omega)]; simp [go_sem]
  have z1_h : w.heap.size < w1.heap.size := kz1 _ (by first | assumption | (simp; done) | (simp; omega) | omega)
  have q1_h_1_0 : w1.cell? ⟨w.heap.size + 1, 0, none⟩ = some (.int .i64 m) := by rw [kc1 _ _ (by first | assumption | (simp; done) | (simp; omega) | omega)]; simp [go_sem]
  have r1_h_1_0 : w1.frozen? ⟨w.heap.size + 1, 0, none⟩ = false := by rw [kf1 _ _ (by first | assumption | (simp; done) | (simp; omega) | omega)]; simp [go_sem]
  have z1_h_1 : w.heap.size + 1 < w1.heap.size := kz1 _ (by first | assumption | (simp; done) | (simp; omega) | omega)
  clear kc1 kf1 kz1 ky1 kx1 kv1 ku1 hb1
  (go_wp2_with fail; refine (isOf_impl _ _ _ _ _ _ _ _).mono ?_; rintro e w2 ⟨rfl, hb2⟩; rw [h]; (have ha2 : Below w.heap.size w w2 := by (repeat (first | with_reducible exact Below.refl _ _ | with_reducible assumption | with_reducible refine balloc ?_ _ | with_reducible refine bdrew ?_ | with_reducible refine below_drewN ?_ _ | with_reducible refine bset ?_ ?_ _ | with_reducible exact Nat.le_refl _ | with_reducible refine bsize ?_ | (dsimp only; refine Nat.le_trans ?_ (Nat.le_add_right _ _)) | with_reducible refine Nat.le_trans ?_ (Nat.le_add_right _ _) | (with_reducible refine bstep ?_ (by assumption))))); obtain ⟨kc2, kf2, kz2, ky2, kx2, kv2, ku2⟩ := bcell hb2)
  have fA2 := fA1.later hb2
  have fB2 := fB1.later hb2
  clear fA1 fB1
  have q2_h_0 : w2.cell? ⟨w.heap.size, 0, none⟩ = some (.int .i64 1) := by rw [kc2 _ _ (by first | assumption | (simp; done) | (simp; omega) | omega)]; simp [go_sem, q1_h_0, r1_h_0, q1_h_1, r1_h_1, q1_h_2, r1_h_2, z1_h, q1_h_1_0, r1_h_1_0, z1_h_1]
  have r2_h_0 : w2.frozen? ⟨w.heap.size, 0, none⟩ = false := by rw [kf2 _ _ (by first | assumption | (simp; done) | (simp; omega) | omega)]; simp [go_sem, q1_h_0, r1_h_0, q1_h_1, r1_h_1, q1_h_2, r1_h_2, z1_h, q1_h_1_0, r1_h_1_0, z1_h_1]
  have q2_h_1 : w2.cell? ⟨w.heap.size, 1, none⟩ = some (.int .i64 a) := by rw [kc2 _ _ (by first | assumption | (simp; done) | (simp; omega) | omega)]; simp [go_sem, q1_h_0, r1_h_0, q1_h_1, r1_h_1, q1_h_2, r1_h_2, z1_h, q1_h_1_0, r1_h_1_0, z1_h_1]
  have r2_h_1 : w2.frozen? ⟨w.heap.size, 1, none⟩ = false := by rw [kf2 _ _ (by first | assumption | (simp; done) | (simp; omega) | omega)]; simp [go_sem, q1_h_0, r1_h_0, q1_h_1, r1_h_1, q1_h_2, r1_h_2, z1_h, q1_h_1_0, r1_h_1_0, z1_h_1]
  have q2_h_2 : w2.cell? ⟨w.heap.size, 2, none⟩ = some (.int .i64 b) := by rw [kc2 _ _ (by first | assumption | (simp; done) | (simp; omega) | omega)]; simp [go_sem, q1_h_0, r1_h_0, q1_h_1, r1_h_1, q1_h_2, r1_h_2, z1_h, q1_h_1_0, r1_h_1_0, z1_h_1]
  have r2_h_2 : w2.frozen? ⟨w.heap.size, 2, none⟩ = false := by rw [kf2 _ _ (by first | assumption | (simp; done) | (simp; omega) | omega)]; simp [go_sem, q1_h_0, r1_h_0, q1_h_1, r1_h_1, q1_h_2, r1_h_2, z1_h, q1_h_1_0, r1_h_1_0, z1_h_1]
  have z2_h : w.heap.size < w2.heap.size := kz2 _ (by first | assumption | (simp; done) | (simp; omega) | omega)
  have q2_h_1_0 : w2.cell? ⟨w.heap.size + 1, 0, none⟩ = some (.int .i64 m) := by rw [kc2 _ _ (by first | assumption | (simp; done) | (simp; omega) | omega)]; simp [go_sem, q1_h_0, r1_h_0, q1_h_1, r1_h_1, q1_h_2, r1_h_2, z1_h, q1_h_1_0, r1_h_1_0, z1_h_1]
  have r2_h_1_0 : w2.frozen? ⟨w.heap.size + 1, 0, none⟩ = false := by rw [kf2 _ _ (by first | assumption | (simp; done) | (simp; omega) | omega)]; simp [go_sem, q1_h_0, r1_h_0, q1_h_1, r1_h_1, q1_h_2, r1_h_2, z1_h, q1_h_1_0, r1_h_1_0, z1_h_1]
  have z2_h_1 : w.heap.size + 1 < w2.heap.size := kz2 _ (by first | assumption | (simp; done) | (simp; omega) | omega)
  clear kc2 kf2 kz2 ky2 kx2 kv2 ku2 hb2 q1_h_0 r1_h_0 q1_h_1 r1_h_1 q1_h_2 r1_h_2 z1_h q1_h_1_0 r1_h_1_0 z1_h_1
  go_wp2
  go_ret
  exact ⟨_, rfl, ⟨w.heap.size, w.heap.size + 1, fA2, fB2, rfl⟩, by (repeat (first | with_reducible exact Below.refl _ _ | with_reducible assumption | with_reducible refine balloc ?_ _ | with_reducible refine bdrew ?_ | with_reducible refine below_drewN ?_ _ | with_reducible refine bset ?_ ?_ _ | with_reducible exact Nat.le_refl _ | with_reducible refine bsize ?_ | (dsimp only; refine Nat.le_trans ?_ (Nat.le_add_right _ _)) | with_reducible refine Nat.le_trans ?_ (Nat.le_add_right _ _) | (with_reducible refine bstep ?_ (by assumption))))⟩
set_option maxHeartbeats 3200000 in
theorem tr_yes_2 (m a b : Int) (hm : 1 ≤ m ∧ m ≤ 10) (h : ofB 2 a b 2 0 (m - 1) 0 = true) (w : World) :
    Calls Try.prog 36 #[.agg #[.int .i64 2, .int .i64 a, .int .i64 b], .int .i64 m] w fun e w' => ∃ v, e = .returned v ∧ TrialAt m ⟨2, a, b⟩ v w' ∧ Below w.heap.size w w' := by
  have hmf : ∀ (fn : Fn) (first cap : Array Value) (w : World), (Instr.makeFunc fn first cap).run Try.prog w = .ok (.func fn first cap) w := fun _ _ _ _ => rfl
  have n0 : ofB 2 a b 0 1 (m - 1) 0 = false := ofB_ne (by decide)
  have n1 : ofB 2 a b 1 1 (m - 1) 0 = false := ofB_ne (by decide)
  go_enter Try.func36, Try.ntmps36
  (go_wp2_with fail; refine (isOf_impl _ _ _ _ _ _ _ _).mono ?_; rintro e w1 ⟨rfl, hb1⟩; rw [n0]; (have ha1 : Below w.heap.size w w1 := by (repeat (first | with_reducible exact Below.refl _ _ | with_reducible assumption | with_reducible refine balloc ?_ _ | with_reducible refine bdrew ?_ | with_reducible refine below_drewN ?_ _ | with_reducible refine bset ?_ ?_ _ | with_reducible exact Nat.le_refl _ | with_reducible refine bsize ?_ | (dsimp only; refine Nat.le_trans ?_ (Nat.le_add_right _ _)) | with_reducible refine Nat.le_trans ?_ (Nat.le_add_right _ _) | (with_reducible refine bstep ?_ (by assumption))))); obtain ⟨kc1, kf1, kz1, ky1, kx1, kv1, ku1⟩ := bcell hb1)
  have fA1 : Blk w.heap.size #[.int .i64 2, .int .i64 a, .int .i64 b] 25 w1 := ((Blk.new w _ _).alloc _).later hb1
  have fB1 : Blk (w.heap.size + 1) #[.int .i64 m] 3 w1 := Blk.later (by have h := Blk.new (w.alloc (.cells #[.int .i64 2, .int .i64 a, .int .i64 b] 25)) #[.int .i64 m] 3; rw [World.size_alloc] at h; exact h) hb1
  have q1_h_0 : w1.cell? ⟨w.heap.size, 0, none⟩ = some (.int .i64 2) := by rw [kc1 _ _ (by first | assumption | (simp; done) | (simp; omega) | omega)]; simp [go_sem]
  have r1_h_0 : w1.frozen? ⟨w.heap.size, 0, none⟩ = false := by rw [kf1 _ _ (by first | assumption | (simp; done) | (simp; omega) | omega)]; simp [go_sem]
  have q1_h_1 : w1.cell? ⟨w.heap.size, 1, none⟩ = some (.int .i64 a) := by rw [kc1 _ _ (by first | assumption | (simp; done) | (simp; omega) | omega)]; simp [go_sem]
  have r1_h_1 : w1.frozen? ⟨w.heap.size, 1, none⟩ = false := by rw [kf1 _ _ (by first | assumption | (simp; done) | (simp; omega) | omega)]; simp [go_sem]
  have q1_h_2 : w1.cell? ⟨w.heap.size, 2, none⟩ = some (.int .i64 b) := by rw [kc1 _ _ (by first | assumption | (simp; done) | (simp; omega) | omega)]; simp [go_sem]
  have r1_h_2 : w1.frozen? ⟨w.heap.size, 2, none⟩ = false := by rw [kf1 _ _ (by first | assumption | (simp; done) | (simp; omega) | omega)]; simp [go_sem]
  have z1_h : w.heap.size < w1.heap.size := kz1 _ (by first | assumption | (simp; done) | (simp; omega) | omega)
  have q1_h_1_0 : w1.cell? ⟨w.heap.size + 1, 0, none⟩ = some (.int .i64 m) := by rw [kc1 _ _ (by first | assumption | (simp; done) | (simp; omega) | omega)]; simp [go_sem]
  have r1_h_1_0 : w1.frozen? ⟨w.heap.size + 1, 0, none⟩ = false := by rw [kf1 _ _ (by first | assumption | (simp; done) | (simp; omega) | omega)]; simp [go_sem]
  have z1_h_1 : w.heap.size + 1 < w1.heap.size := kz1 _ (by first | assumption | (simp; done) | (simp; omega) | omega)
  clear kc1 kf1 kz1 ky1 kx1 kv1 ku1 hb1
  (go_wp2_with fail; refine (isOf_impl _ _ _ _ _ _ _ _).mono ?_; rintro e w2 ⟨rfl, hb2⟩; rw [n1]; (have ha2 : Below w.heap.size w w2 := by (repeat (first | with_reducible exact Below.refl _ _ | with_reducible assumption | with_reducible refine balloc ?_ _ | with_reducible refine bdrew ?_ | with_reducible refine below_drewN ?_ _ | with_reducible refine bset ?_ ?_ _ | with_reducible exact Nat.le_refl _ | with_reducible refine bsize ?_ | (dsimp only; refine Nat.le_trans ?_ (Nat.le_add_right _ _)) | with_reducible refine Nat.le_trans ?_ (Nat.le_add_right _ _) | (with_reducible refine bstep ?_ (by assumption))))); obtain ⟨kc2, kf2, kz2, ky2, kx2, kv2, ku2⟩ := bcell hb2)
  have fA2 := fA1.later hb2
  have fB2 := fB1.later hb2
  clear fA1 fB1
  have q2_h_0 : w2.cell? ⟨w.heap.size, 0, none⟩ = some (.int .i64 2) := by rw [kc2 _ _ (by first | assumption | (simp; done) | (simp; omega) | omega)]; simp [go_sem, q1_h_0, r1_h_0, q1_h_1, r1_h_1, q1_h_2, r1_h_2, z1_h, q1_h_1_0, r1_h_1_0, z1_h_1]
  have r2_h_0 : w2.frozen? ⟨w.heap.size, 0, none⟩ = false := by rw [kf2 _ _ (by first | assumption | (simp; done) | (simp; omega) | omega)]; simp [go_sem, q1_h_0, r1_h_0, q1_h_1, r1_h_1, q1_h_2, r1_h_2, z1_h, q1_h_1_0, r1_h_1_0, z1_h_1]
  have q2_h_1 : w2.cell? ⟨w.heap.size, 1, none⟩ = some (.int .i64 a) := by rw [kc2 _ _ (by first | assumption | (simp; done) | (simp; omega) | omega)]; simp [go_sem, q1_h_0, r1_h_0, q1_h_1, r1_h_1, q1_h_2, r1_h_2, z1_h, q1_h_1_0, r1_h_1_0, z1_h_1]
  have r2_h_1 : w2.frozen? ⟨w.heap.size, 1, none⟩ = false := by rw [kf2 _ _ (by first | assumption | (simp; done) | (simp; omega) | omega)]; simp [go_sem, q1_h_0, r1_h_0, q1_h_1, r1_h_1, q1_h_2, r1_h_2, z1_h, q1_h_1_0, r1_h_1_0, z1_h_1]
  have q2_h_2 : w2.cell? ⟨w.heap.size, 2, none⟩ = some (.int .i64 b) := by rw [kc2 _ _ (by first | assumption | (simp; done) | (simp; omega) | omega)]; simp [go_sem, q1_h_0, r1_h_0, q1_h_1, r1_h_1, q1_h_2, r1_h_2, z1_h, q1_h_1_0, r1_h_1_0, z1_h_1]
  have r2_h_2 : w2.frozen? ⟨w.heap.size, 2, none⟩ = false := by rw [kf2 _ _ (by first | assumption | (simp; done) | (simp; omega) | omega)]; simp [go_sem, q1_h_0, r1_h_0, q1_h_1, r1_h_1, q1_h_2, r1_h_2, z1_h, q1_h_1_0, r1_h_1_0, z1_h_1]
  have z2_h : w.heap.size < w2.heap.size := kz2 _ (by first | assumption | (simp; done) | (simp; omega) | omega)
  have q2_h_1_0 : w2.cell? ⟨w.heap.size + 1, 0, none⟩ = some (.int .i64 m) := by rw [kc2 _ _ (by first | assumption | (simp; done) | (simp; omega) | omega)]; simp [go_sem, q1_h_0, r1_h_0, q1_h_1, r1_h_1, q1_h_2, r1_h_2, z1_h, q1_h_1_0, r1_h_1_0, z1_h_1]
  have r2_h_1_0 : w2.frozen? ⟨w.heap.size + 1, 0, none⟩ = false := by rw [kf2 _ _ (by first | assumption | (simp; done) | (simp; omega) | omega)]; simp [go_sem, q1_h_0, r1_h_0, q1_h_1, r1_h_1, q1_h_2, r1_h_2, z1_h, q1_h_1_0, r1_h_1_0, z1_h_1]
  have z2_h_1 : w.heap.size + 1 < w2.heap.size := kz2 _ (by first | assumption | (simp; done) | (simp; omega) | omega)
  clear kc2 kf2 kz2 ky2 kx2 kv2 ku2 hb2 q1_h_0 r1_h_0 q1_h_1 r1_h_1 q1_h_2 r1_h_2 z1_h q1_h_1_0 r1_h_1_0 z1_h_1
  (go_wp2_with fail; refine (isOf_impl _ _ _ _ _ _ _ _).mono ?_; rintro e w3 ⟨rfl, hb3⟩; rw [h]; (have ha3 : Below w.heap.size w w3 := by (repeat (first | with_reducible exact Below.refl _ _ | with_reducible assumption | with_reducible refine balloc ?_ _ | with_reducible refine bdrew ?_ | with_reducible refine below_drewN ?_ _ | with_reducible refine bset ?_ ?_ _ | with_reducible exact Nat.le_refl _ | with_reducible refine bsize ?_ | (dsimp only; refine Nat.le_trans ?_ (Nat.le_add_right _ _)) | with_reducible refine Nat.le_trans ?_ (Nat.le_add_right _ _) | (with_reducible refine bstep ?_ (by assumption))))); obtain ⟨kc3, kf3, kz3, ky3, kx3, kv3, ku3⟩ := bcell hb3)
  have fA3 := fA2.later hb3
  have fB3 := fB2.later hb3
  clear fA2 fB2
  have q3_h_0 : w3.cell? ⟨w.heap.size, 0, none⟩ = some (.int .i64 2) := by rw [kc3 _ _ (by first | assumption | (simp; done) | (simp; omega) | omega)]; simp [go_sem, q2_h_0, r2_h_0, q2_h_1, r2_h_1, q2_h_2, r2_h_2, z2_h, q2_h_1_0, r2_h_1_0, z2_h_1]
  have r3_h_0 : w3.frozen? ⟨w.heap.size, 0, none⟩ = false := by rw [kf3 _ _ (by first | assumption | (simp; done) | (simp; omega) | omega)]; simp [go_sem, q2_h_0, r2_h_0, q2_h_1, r2_h_1, q2_h_2, r2_h_2, z2_h, q2_h_1_0, r2_h_1_0, z2_h_1]
  have q3_h_1 : w3.cell? ⟨w.heap.size, 1, none⟩ = some (.int .i64 a) := by rw [kc3 _ _ (by first | assumption | (simp; done) | (simp; omega) | omega)]; simp [go_sem, q2_h_0, r2_h_0, q2_h_1, r2_h_1, q2_h_2, r2_h_2, z2_h, q2_h_1_0, r2_h_1_0, z2_h_1]
  have r3_h_1 : w3.frozen? ⟨w.heap.size, 1, none⟩ = false := by rw [kf3 _ _ (by first | assumption | (simp; done) | (simp; omega) | omega)]; simp [go_sem, q2_h_0, r2_h_0, q2_h_1, r2_h_1, q2_h_2, r2_h_2, z2_h, q2_h_1_0, r2_h_1_0, z2_h_1]
  have q3_h_2 : w3.cell? ⟨w.heap.size, 2, none⟩ = some (.int .i64 b) := by rw [kc3 _ _ (by first | assumption | (simp; done) | (simp; omega) | omega)]; simp [go_sem, q2_h_0, r2_h_0, q2_h_1, r2_h_1, q2_h_2, r2_h_2, z2_h, q2_h_1_0, r2_h_1_0, z2_h_1]
  have r3_h_2 : w3.frozen? ⟨w.heap.size, 2, none⟩ = false := by rw [kf3 _ _ (by first | assumption | (simp; done) | (simp; omega) | omega)]; simp [go_sem, q2_h_0, r2_h_0, q2_h_1, r2_h_1, q2_h_2, r2_h_2, z2_h, q2_h_1_0, r2_h_1_0, z2_h_1]
  have z3_h : w.heap.size < w3.heap.size := kz3 _ (by first | assumption | (simp; done) | (simp; omega) | omega)
  have q3_h_1_0 : w3.cell? ⟨w.heap.size + 1, 0, none⟩ = some (.int .i64 m) := by rw [kc3 _ _ (by first | assumption | (simp; done) | (simp; omega) | omega)]; simp [go_sem, q2_h_0, r2_h_0, q2_h_1, r2_h_1, q2_h_2, r2_h_2, z2_h, q2_h_1_0, r2_h_1_0, z2_h_1]
  have r3_h_1_0 : w3.frozen? ⟨w.heap.size + 1, 0, none⟩ = false := by rw [kf3 _ _ (by first | assumption | (simp; done) | (simp; omega) | omega)]; simp [go_sem, q2_h_0, r2_h_0, q2_h_1, r2_h_1, q2_h_2, r2_h_2, z2_h, q2_h_1_0, r2_h_1_0, z2_h_1]
  have z3_h_1 : w.heap.size + 1 < w3.heap.size := kz3 _ (by first | assumption | (simp; done) | (simp; omega) | omega)
  clear kc3 kf3 kz3 ky3 kx3 kv3 ku3 hb3 q2_h_0 r2_h_0 q2_h_1 r2_h_1 q2_h_2 r2_h_2 z2_h q2_h_1_0 r2_h_1_0 z2_h_1
  go_wp2
  go_ret
  exact ⟨_, rfl, ⟨w.heap.size, w.heap.size + 1, fA3, fB3, rfl⟩, by (repeat (first | with_reducible exact Below.refl _ _ | with_reducible assumption | with_reducible refine balloc ?_ _ | with_reducible refine bdrew ?_ | with_reducible refine below_drewN ?_ _ | with_reducible refine bset ?_ ?_ _ | with_reducible exact Nat.le_refl _ | with_reducible refine bsize ?_ | (dsimp only; refine Nat.le_trans ?_ (Nat.le_add_right _ _)) | with_reducible refine Nat.le_trans ?_ (Nat.le_add_right _ _) | (with_reducible refine bstep ?_ (by assumption))))⟩
set_option maxHeartbeats 3200000 in
theorem tr_yes_3 (m a b : Int) (hm : 1 ≤ m ∧ m ≤ 10) (h : ofB 3 a b 3 1 m (m - 1) = true) (w : World) :
    Calls Try.prog 36 #[.agg #[.int .i64 3, .int .i64 a, .int .i64 b], .int .i64 m] w fun e w' => ∃ v, e = .returned v ∧ TrialAt m ⟨3, a, b⟩ v w' ∧ Below w.heap.size w w' := by
  have hmf : ∀ (fn : Fn) (first cap : Array Value) (w : World), (Instr.makeFunc fn first cap).run Try.prog w = .ok (.func fn first cap) w := fun _ _ _ _ => rfl
  have n0 : ofB 3 a b 0 1 (m - 1) 0 = false := ofB_ne (by decide)
  have n1 : ofB 3 a b 1 1 (m - 1) 0 = false := ofB_ne (by decide)
  have n2 : ofB 3 a b 2 0 (m - 1) 0 = false := ofB_ne (by decide)
  go_enter Try.func36, Try.ntmps36
  (go_wp2_with fail; refine (isOf_impl _ _ _ _ _ _ _ _).mono ?_; rintro e w1 ⟨rfl, hb1⟩; rw [n0]; (have ha1 : Below w.heap.size w w1 := by (repeat (first | with_reducible exact Below.refl _ _ | with_reducible assumption | with_reducible refine balloc ?_ _ | with_reducible refine bdrew ?_ | with_reducible refine below_drewN ?_ _ | with_reducible refine bset ?_ ?_ _ | with_reducible exact Nat.le_refl _ | with_reducible refine bsize ?_ | (dsimp only; refine Nat.le_trans ?_ (Nat.le_add_right _ _)) | with_reducible refine Nat.le_trans ?_ (Nat.le_add_right _ _) | (with_reducible refine bstep ?_ (by assumption))))); obtain ⟨kc1, kf1, kz1, ky1, kx1, kv1, ku1⟩ := bcell hb1)
  have fA1 : Blk w.heap.size #[.int .i64 3, .int .i64 a, .int .i64 b] 25 w1 := ((Blk.new w _ _).alloc _).later hb1
  have fB1 : Blk (w.heap.size + 1) #[.int .i64 m] 3 w1 := Blk.later (by have h := Blk.new (w.alloc (.cells #[.int .i64 3, .int .i64 a, .int .i64 b] 25)) #[.int .i64 m] 3; rw [World.size_alloc] at h; exact h) hb1
  have q1_h_0 : w1.cell? ⟨w.heap.size, 0, none⟩ = some (.int .i64 3) := by rw [kc1 _ _ (by first | assumption | (simp; done) | (simp; omega) | omega)]; simp [go_sem]
  have r1_h_0 : w1.frozen? ⟨w.heap.size, 0, none⟩ = false := by rw [kf1 _ _ (by first | assumption | (simp; done) | (simp; omega) | omega)]; simp [go_sem]
  have q1_h_1 : w1.cell? ⟨w.heap.size, 1, none⟩ = some (.int .i64 a) := by rw [kc1 _ _ (by first | assumption | (simp; done) | (simp; omega) | omega)]; simp [go_sem]
  have r1_h_1 : w1.frozen? ⟨w.heap.size, 1, none⟩ = false := by rw [kf1 _ _ (by first | assumption | (simp; done) | (simp; omega) | omega)]; simp [go_sem]
  have q1_h_2 : w1.cell? ⟨w.heap.size, 2, none⟩ = some (.int .i64 b) := by rw [kc1 _ _ (by first | assumption | (simp; done) | (simp; omega) | omega)]; simp [go_sem]
  have r1_h_2 : w1.frozen? ⟨w.heap.size, 2, none⟩ = false := by rw [kf1 _ _ (by first | assumption | (simp; done) | (simp; omega) | omega)]; simp [go_sem]
  have z1_h : w.heap.size < w1.heap.size := kz1 _ (by first | assumption | (simp; done) | (simp; omega) | omega)
  have q1_h_1_0 : w1.cell? ⟨w.heap.size + 1, 0, none⟩ = some (.int .i64 m) := by rw [kc1 _ _ (by first | assumption | (simp; done) | (simp; omega) | omega)]; simp [go_sem]
  have r1_h_1_0 : w1.frozen? ⟨w.heap.size + 1, 0, none⟩ = false := by rw [kf1 _ _ (by first | assumption | (simp; done) | (simp; omega) | omega)]; simp [go_sem]
  have z1_h_1 : w.heap.size + 1 < w1.heap.size := kz1 _ (by first | assumption | (simp; done) | (simp; omega) | omega)
  clear kc1 kf1 kz1 ky1 kx1 kv1 ku1 hb1
  (go_wp2_with fail; refine (isOf_impl _ _ _ _ _ _ _ _).mono ?_; rintro e w2 ⟨rfl, hb2⟩; rw [n1]; (have ha2 : Below w.heap.size w w2 := by (repeat (first | with_reducible exact Below.refl _ _ | with_reducible assumption | with_reducible refine balloc ?_ _ | with_reducible refine bdrew ?_ | with_reducible refine below_drewN ?_ _ | with_reducible refine bset ?_ ?_ _ | with_reducible exact Nat.le_refl _ | with_reducible refine bsize ?_ | (dsimp only; refine Nat.le_trans ?_ (Nat.le_add_right _ _)) | with_reducible refine Nat.le_trans ?_ (Nat.le_add_right _ _) | (with_reducible refine bstep ?_ (by assumption))))); obtain ⟨kc2, kf2, kz2, ky2, kx2, kv2, ku2⟩ := bcell hb2)
  have fA2 := fA1.later hb2
  have fB2 := fB1.later hb2
  clear fA1 fB1
  have q2_h_0 : w2.cell? ⟨w.heap.size, 0, none⟩ = some (.int .i64 3) := by rw [kc2 _ _ (by first | assumption | (simp; done) | (simp; omega) | omega)]; simp [go_sem, q1_h_0, r1_h_0, q1_h_1, r1_h_1, q1_h_2, r1_h_2, z1_h, q1_h_1_0, r1_h_1_0, z1_h_1]
  have r2_h_0 : w2.frozen? ⟨w.heap.size, 0, none⟩ = false := by rw [kf2 _ _ (by first | assumption | (simp; done) | (simp; omega) | omega)]; simp [go_sem, q1_h_0, r1_h_0, q1_h_1, r1_h_1, q1_h_2, r1_h_2, z1_h, q1_h_1_0, r1_h_1_0, z1_h_1]
  have q2_h_1 : w2.cell? ⟨w.heap.size, 1, none⟩ = some (.int .i64 a) := by rw [kc2 _ _ (by first | assumption | (simp; done) | (simp; omega) | omega)]; simp [go_sem, q1_h_0, r1_h_0, q1_h_1, r1_h_1, q1_h_2, r1_h_2, z1_h, q1_h_1_0, r1_h_1_0, z1_h_1]
  have r2_h_1 : w2.frozen? ⟨w.heap.size, 1, none⟩ = false := by rw [kf2 _ _ (by first | assumption | (simp; done) | (simp; omega) | omega)]; simp [go_sem, q1_h_0, r1_h_0, q1_h_1, r1_h_1, q1_h_2, r1_h_2, z1_h, q1_h_1_0, r1_h_1_0, z1_h_1]
  have q2_h_2 : w2.cell? ⟨w.heap.size, 2, none⟩ = some (.int .i64 b) := by rw [kc2 _ _ (by first | assumption | (simp; done) | (simp; omega) | omega)]; simp [go_sem, q1_h_0, r1_h_0, q1_h_1, r1_h_1, q1_h_2, r1_h_2, z1_h, q1_h_1_0, r1_h_1_0, z1_h_1]
  have r2_h_2 : w2.frozen? ⟨w.heap.size, 2, none⟩ = false := by rw [kf2 _ _ (by first | assumption | (simp; done) | (simp; omega) | omega)]; simp [go_sem, q1_h_0, r1_h_0, q1_h_1, r1_h_1, q1_h_2, r1_h_2, z1_h, q1_h_1_0, r1_h_1_0, z1_h_1]
  have z2_h : w.heap.size < w2.heap.size := kz2 _ (by first | assumption | (simp; done) | (simp; omega) | omega)
  have q2_h_1_0 : w2.cell? ⟨w.heap.size + 1, 0, none⟩ = some (.int .i64 m) := by rw [kc2 _ _ (by first | assumption | (simp; done) | (simp; omega) | omega)]; simp [go_sem, q1_h_0, r1_h_0, q1_h_1, r1_h_1, q1_h_2, r1_h_2, z1_h, q1_h_1_0, r1_h_1_0, z1_h_1]
  have r2_h_1_0 : w2.frozen? ⟨w.heap.size + 1, 0, none⟩ = false := by rw [kf2 _ _ (by first | assumption | (simp; done) | (simp; omega) | omega)]; simp [go_sem, q1_h_0, r1_h_0, q1_h_1, r1_h_1, q1_h_2, r1_h_2, z1_h, q1_h_1_0, r1_h_1_0, z1_h_1]
  have z2_h_1 : w.heap.size + 1 < w2.heap.size := kz2 _ (by first | assumption | (simp; done) | (simp; omega) | omega)
  clear kc2 kf2 kz2 ky2 kx2 kv2 ku2 hb2 q1_h_0 r1_h_0 q1_h_1 r1_h_1 q1_h_2 r1_h_2 z1_h q1_h_1_0 r1_h_1_0 z1_h_1
  (go_wp2_with fail; refine (isOf_impl _ _ _ _ _ _ _ _).mono ?_; rintro e w3 ⟨rfl, hb3⟩; rw [n2]; (have ha3 : Below w.heap.size w w3 := by (repeat (first | with_reducible exact Below.refl _ _ | with_reducible assumption | with_reducible refine balloc ?_ _ | with_reducible refine bdrew ?_ | with_reducible refine below_drewN ?_ _ | with_reducible refine bset ?_ ?_ _ | with_reducible exact Nat.le_refl _ | with_reducible refine bsize ?_ | (dsimp only; refine Nat.le_trans ?_ (Nat.le_add_right _ _)) | with_reducible refine Nat.le_trans ?_ (Nat.le_add_right _ _) | (with_reducible refine bstep ?_ (by assumption))))); obtain ⟨kc3, kf3, kz3, ky3, kx3, kv3, ku3⟩ := bcell hb3)
  have fA3 := fA2.later hb3
  have fB3 := fB2.later hb3
  clear fA2 fB2
  have q3_h_0 : w3.cell? ⟨w.heap.size, 0, none⟩ = some (.int .i64 3) := by rw [kc3 _ _ (by first | assumption | (simp; done) | (simp; omega) | omega)]; simp [go_sem, q2_h_0, r2_h_0, q2_h_1, r2_h_1, q2_h_2, r2_h_2, z2_h, q2_h_1_0, r2_h_1_0, z2_h_1]
  have r3_h_0 : w3.frozen? ⟨w.heap.size, 0, none⟩ = false := by rw [kf3 _ _ (by first | assumption | (simp; done) | (simp; omega) | omega)]; simp [go_sem, q2_h_0, r2_h_0, q2_h_1, r2_h_1, q2_h_2, r2_h_2, z2_h, q2_h_1_0, r2_h_1_0, z2_h_1]
  have q3_h_1 : w3.cell? ⟨w.heap.size, 1, none⟩ = some (.int .i64 a) := by rw [kc3 _ _ (by first | assumption | (simp; done) | (simp; omega) | omega)]; simp [go_sem, q2_h_0, r2_h_0, q2_h_1, r2_h_1, q2_h_2, r2_h_2, z2_h, q2_h_1_0, r2_h_1_0, z2_h_1]
  have r3_h_1 : w3.frozen? ⟨w.heap.size, 1, none⟩ = false := by rw [kf3 _ _ (by first | assumption | (simp; done) | (simp; omega) | omega)]; simp [go_sem, q2_h_0, r2_h_0, q2_h_1, r2_h_1, q2_h_2, r2_h_2, z2_h, q2_h_1_0, r2_h_1_0, z2_h_1]
  have q3_h_2 : w3.cell? ⟨w.heap.size, 2, none⟩ = some (.int .i64 b) := by rw [kc3 _ _ (by first | assumption | (simp; done) | (simp; omega) | omega)]; simp [go_sem, q2_h_0, r2_h_0, q2_h_1, r2_h_1, q2_h_2, r2_h_2, z2_h, q2_h_1_0, r2_h_1_0, z2_h_1]
  have r3_h_2 : w3.frozen? ⟨w.heap.size, 2, none⟩ = false := by rw [kf3 _ _ (by first | assumption | (simp; done) | (simp; omega) | omega)]; simp [go_sem, q2_h_0, r2_h_0, q2_h_1, r2_h_1, q2_h_2, r2_h_2, z2_h, q2_h_1_0, r2_h_1_0, z2_h_1]
  have z3_h : w.heap.size < w3.heap.size := kz3 _ (by first | assumption | (simp; done) | (simp; omega) | omega)
  have q3_h_1_0 : w3.cell? ⟨w.heap.size + 1, 0, none⟩ = some (.int .i64 m) := by rw [kc3 _ _ (by first | assumption | (simp; done) | (simp; omega) | omega)]; simp [go_sem, q2_h_0, r2_h_0, q2_h_1, r2_h_1, q2_h_2, r2_h_2, z2_h, q2_h_1_0, r2_h_1_0, z2_h_1]
  have r3_h_1_0 : w3.frozen? ⟨w.heap.size + 1, 0, none⟩ = false := by rw [kf3 _ _ (by first | assumption | (simp; done) | (simp; omega) | omega)]; simp [go_sem, q2_h_0, r2_h_0, q2_h_1, r2_h_1, q2_h_2, r2_h_2, z2_h, q2_h_1_0, r2_h_1_0, z2_h_1]
  have z3_h_1 : w.heap.size + 1 < w3.heap.size := kz3 _ (by first | assumption | (simp; done) | (simp; omega) | omega)
  clear kc3 kf3 kz3 ky3 kx3 kv3 ku3 hb3 q2_h_0 r2_h_0 q2_h_1 r2_h_1 q2_h_2 r2_h_2 z2_h q2_h_1_0 r2_h_1_0 z2_h_1
  (go_wp2_with fail; refine (isOf_impl _ _ _ _ _ _ _ _).mono ?_; rintro e w4 ⟨rfl, hb4⟩; rw [h]; (have ha4 : Below w.heap.size w w4 := by (repeat (first | with_reducible exact Below.refl _ _ | with_reducible assumption | with_reducible refine balloc ?_ _ | with_reducible refine bdrew ?_ | with_reducible refine below_drewN ?_ _ | with_reducible refine bset ?_ ?_ _ | with_reducible exact Nat.le_refl _ | with_reducible refine bsize ?_ | (dsimp only; refine Nat.le_trans ?_ (Nat.le_add_right _ _)) | with_reducible refine Nat.le_trans ?_ (Nat.le_add_right _ _) | (with_reducible refine bstep ?_ (by assumption))))); obtain ⟨kc4, kf4, kz4, ky4, kx4, kv4, ku4⟩ := bcell hb4)
  have fA4 := fA3.later hb4
  have fB4 := fB3.later hb4
  clear fA3 fB3
  have q4_h_0 : w4.cell? ⟨w.heap.size, 0, none⟩ = some (.int .i64 3) := by rw [kc4 _ _ (by first | assumption | (simp; done) | (simp; omega) | omega)]; simp [go_sem, q3_h_0, r3_h_0, q3_h_1, r3_h_1, q3_h_2, r3_h_2, z3_h, q3_h_1_0, r3_h_1_0, z3_h_1]
  have r4_h_0 : w4.frozen? ⟨w.heap.size, 0, none⟩ = false := by rw [kf4 _ _ (by first | assumption | (simp; done) | (simp; omega) | omega)]; simp [go_sem, q3_h_0, r3_h_0, q3_h_1, r3_h_1, q3_h_2, r3_h_2, z3_h, q3_h_1_0, r3_h_1_0, z3_h_1]
  have q4_h_1 : w4.cell? ⟨w.heap.size, 1, none⟩ = some (.int .i64 a) := by rw [kc4 _ _ (by first | assumption | (simp; done) | (simp; omega) | omega)]; simp [go_sem, q3_h_0, r3_h_0, q3_h_1, r3_h_1, q3_h_2, r3_h_2, z3_h, q3_h_1_0, r3_h_1_0, z3_h_1]
  have r4_h_1 : w4.frozen? ⟨w.heap.size, 1, none⟩ = false := by rw [kf4 _ _ (by first | assumption | (simp; done) | (simp; omega) | omega)]; simp [go_sem, q3_h_0, r3_h_0, q3_h_1, r3_h_1, q3_h_2, r3_h_2, z3_h, q3_h_1_0, r3_h_1_0, z3_h_1]
  have q4_h_2 : w4.cell? ⟨w.heap.size, 2, none⟩ = some (.int .i64 b) := by rw [kc4 _ _ (by first | assumption | (simp; done) | (simp; omega) | omega)]; simp [go_sem, q3_h_0, r3_h_0, q3_h_1, r3_h_1, q3_h_2, r3_h_2, z3_h, q3_h_1_0, r3_h_1_0, z3_h_1]
  have r4_h_2 : w4.frozen? ⟨w.heap.size, 2, none⟩ = false := by rw [kf4 _ _ (by first | assumption | (simp; done) | (simp; omega) | omega)]; simp [go_sem, q3_h_0, r3_h_0, q3_h_1, r3_h_1, q3_h_2, r3_h_2, z3_h, q3_h_1_0, r3_h_1_0, z3_h_1]
  have z4_h : w.heap.size < w4.heap.size := kz4 _ (by first | assumption | (simp; done) | (simp; omega) | omega)
  have q4_h_1_0 : w4.cell? ⟨w.heap.size + 1, 0, none⟩ = some (.int .i64 m) := by rw [kc4 _ _ (by first | assumption | (simp; done) | (simp; omega) | omega)]; simp [go_sem, q3_h_0, r3_h_0, q3_h_1, r3_h_1, q3_h_2, r3_h_2, z3_h, q3_h_1_0, r3_h_1_0, z3_h_1]
  have r4_h_1_0 : w4.frozen? ⟨w.heap.size + 1, 0, none⟩ = false := by rw [kf4 _ _ (by first | assumption | (simp; done) | (simp; omega) | omega)]; simp [go_sem, q3_h_0, r3_h_0, q3_h_1, r3_h_1, q3_h_2, r3_h_2, z3_h, q3_h_1_0, r3_h_1_0, z3_h_1]
  have z4_h_1 : w.heap.size + 1 < w4.heap.size := kz4 _ (by first | assumption | (simp; done) | (simp; omega) | omega)
  clear kc4 kf4 kz4 ky4 kx4 kv4 ku4 hb4 q3_h_0 r3_h_0 q3_h_1 r3_h_1 q3_h_2 r3_h_2 z3_h q3_h_1_0 r3_h_1_0 z3_h_1
  go_wp2
  go_ret
  exact ⟨_, rfl, ⟨w.heap.size, w.heap.size + 1, fA4, fB4, rfl⟩, by (repeat (first | with_reducible exact Below.refl _ _ | with_reducible assumption | with_reducible refine balloc ?_ _ | with_reducible refine bdrew ?_ | with_reducible refine below_drewN ?_ _ | with_reducible refine bset ?_ ?_ _ | with_reducible exact Nat.le_refl _ | with_reducible refine bsize ?_ | (dsimp only; refine Nat.le_trans ?_ (Nat.le_add_right _ _)) | with_reducible refine Nat.le_trans ?_ (Nat.le_add_right _ _) | (with_reducible refine bstep ?_ (by assumption))))⟩
set_option maxHeartbeats 3200000 in
theorem tr_yes_4 (m a b : Int) (hm : 1 ≤ m ∧ m ≤ 10) (h : ofB 4 a b 4 1 m 0 = true) (w : World) :
    Calls Try.prog 36 #[.agg #[.int .i64 4, .int .i64 a, .int .i64 b], .int .i64 m] w fun e w' => ∃ v, e = .returned v ∧ TrialAt m ⟨4, a, b⟩ v w' ∧ Below w.heap.size w w' := by
  have hmf : ∀ (fn : Fn) (first cap : Array Value) (w : World), (Instr.makeFunc fn first cap).run Try.prog w = .ok (.func fn first cap) w := fun _ _ _ _ => rfl
  have n0 : ofB 4 a b 0 1 (m - 1) 0 = false := ofB_ne (by decide)
  have n1 : ofB 4 a b 1 1 (m - 1) 0 = false := ofB_ne (by decide)
  have n2 : ofB 4 a b 2 0 (m - 1) 0 = false := ofB_ne (by decide)
  have n3 : ofB 4 a b 3 1 m (m - 1) = false := ofB_ne (by decide)
  go_enter Try.func36, Try.ntmps36
  (go_wp2_with fail; refine (isOf_impl _ _ _ _ _ _ _ _).mono ?_; rintro e w1 ⟨rfl, hb1⟩; rw [n0]; (have ha1 : Below w.heap.size w w1 := by (repeat (first | with_reducible exact Below.refl _ _ | with_reducible assumption | with_reducible refine balloc ?_ _ | with_reducible refine bdrew ?_ | with_reducible refine below_drewN ?_ _ | with_reducible refine bset ?_ ?_ _ | with_reducible exact Nat.le_refl _ | with_reducible refine bsize ?_ | (dsimp only; refine Nat.le_trans ?_ (Nat.le_add_right _ _)) | with_reducible refine Nat.le_trans ?_ (Nat.le_add_right _ _) | (with_reducible refine bstep ?_ (by assumption))))); obtain ⟨kc1, kf1, kz1, ky1, kx1, kv1, ku1⟩ := bcell hb1)
  have fA1 : Blk w.heap.size #[.int .i64 4, .int .i64 a, .int .i64 b] 25 w1 := ((Blk.new w _ _).alloc _).later hb1
  have fB1 : Blk (w.heap.size + 1) #[.int .i64 m] 3 w1 := Blk.later (by have h := Blk.new (w.alloc (.cells #[.int .i64 4, .int .i64 a, .int .i64 b] 25)) #[.int .i64 m] 3; rw [World.size_alloc] at h; exact h) hb1
  have q1_h_0 : w1.cell? ⟨w.heap.size, 0, none⟩ = some (.int .i64 4) := by rw [kc1 _ _ (by first | assumption | (simp; done) | (simp; omega) | omega)]; simp [go_sem]
  have r1_h_0 : w1.frozen? ⟨w.heap.size, 0, none⟩ = false := by rw [kf1 _ _ (by first | assumption | (simp; done) | (simp; omega) | omega)]; simp [go_sem]
  have q1_h_1 : w1.cell? ⟨w.heap.size, 1, none⟩ = some (.int .i64 a) := by rw [kc1 _ _ (by first | assumption | (simp; done) | (simp; omega) | omega)]; simp [go_sem]
  have r1_h_1 : w1.frozen? ⟨w.heap.size, 1, none⟩ = false := by rw [kf1 _ _ (by first | assumption | (simp; done) | (simp; omega) | omega)]; simp [go_sem]
  have q1_h_2 : w1.cell? ⟨w.heap.size, 2, none⟩ = some (.int .i64 b) := by rw [kc1 _ _ (by first | assumption | (simp; done) | (simp; omega) | omega)]; simp [go_sem]
  have r1_h_2 : w1.frozen? ⟨w.heap.size, 2, none⟩ = false := by rw [kf1 _ _ (by first | assumption | (simp; done) | (simp; omega) | omega)]; simp [go_sem]
  have z1_h : w.heap.size < w1.heap.size := kz1 _ (by first | assumption | (simp; done) | (simp; omega) | omega)
  have q1_h_1_0 : w1.cell? ⟨w.heap.size + 1, 0, none⟩ = some (.int .i64 m) := by rw [kc1 _ _ (by first | assumption | (simp; done) | (simp; omega) | omega)]; simp [go_sem]
  have r1_h_1_0 : w1.frozen? ⟨w.heap.size + 1, 0, none⟩ = false := by rw [kf1 _ _ (by first | assumption | (simp; done) | (simp; omega) | omega)]; simp [go_sem]
  have z1_h_1 : w.heap.size + 1 < w1.heap.size := kz1 _ (by first | assumption | (simp; done) | (simp; omega) | omega)
  clear kc1 kf1 kz1 ky1 kx1 kv1 ku1 hb1
  (go_wp2_with fail; refine (isOf_impl _ _ _ _ _ _ _ _).mono ?_; rintro e w2 ⟨rfl, hb2⟩; rw [n1]; (have ha2 : Below w.heap.size w w2 := by (repeat (first | with_reducible exact Below.refl _ _ | with_reducible assumption | with_reducible refine balloc ?_ _ | with_reducible refine bdrew ?_ | with_reducible refine below_drewN ?_ _ | with_reducible refine bset ?_ ?_ _ | with_reducible exact Nat.le_refl _ | with_reducible refine bsize ?_ | (dsimp only; refine Nat.le_trans ?_ (Nat.le_add_right _ _)) | with_reducible refine Nat.le_trans ?_ (Nat.le_add_right _ _) | (with_reducible refine bstep ?_ (by assumption))))); obtain ⟨kc2, kf2, kz2, ky2, kx2, kv2, ku2⟩ := bcell hb2)
  have fA2 := fA1.later hb2
  have fB2 := fB1.later hb2
  clear fA1 fB1
  have q2_h_0 : w2.cell? ⟨w.heap.size, 0, none⟩ = some (.int .i64 4) := by rw [kc2 _ _ (by first | assumption | (simp; done) | (simp; omega) | omega)]; simp [go_sem, q1_h_0, r1_h_0, q1_h_1, r1_h_1, q1_h_2, r1_h_2, z1_h, q1_h_1_0, r1_h_1_0, z1_h_1]
  have r2_h_0 : w2.frozen? ⟨w.heap.size, 0, none⟩ = false := by rw [kf2 _ _ (by first | assumption | (simp; done) | (simp; omega) | omega)]; simp [go_sem, q1_h_0, r1_h_0, q1_h_1, r1_h_1, q1_h_2, r1_h_2, z1_h, q1_h_1_0, r1_h_1_0, z1_h_1]
  have q2_h_1 : w2.cell? ⟨w.heap.size, 1, none⟩ = some (.int .i64 a) := by rw [kc2 _ _ (by first | assumption | (simp; done) | (simp; omega) | omega)]; simp [go_sem, q1_h_0, r1_h_0, q1_h_1, r1_h_1, q1_h_2, r1_h_2, z1_h, q1_h_1_0, r1_h_1_0, z1_h_1]
  have r2_h_1 : w2.frozen? ⟨w.heap.size, 1, none⟩ = false := by rw [kf2 _ _ (by first | assumption | (simp; done) | (simp; omega) | omega)]; simp [go_sem, q1_h_0, r1_h_0, q1_h_1, r1_h_1, q1_h_2, r1_h_2, z1_h, q1_h_1_0, r1_h_1_0, z1_h_1]
  have q2_h_2 : w2.cell? ⟨w.heap.size, 2, none⟩ = some (.int .i64 b) := by rw [kc2 _ _ (by first | assumption | (simp; done) | (simp; omega) | omega)]; simp [go_sem, q1_h_0, r1_h_0, q1_h_1, r1_h_1, q1_h_2, r1_h_2, z1_h, q1_h_1_0, r1_h_1_0, z1_h_1]
  have r2_h_2 : w2.frozen? ⟨w.heap.size, 2, none⟩ = false := by rw [kf2 _ _ (by first | assumption | (simp; done) | (simp; omega) | omega)]; simp [go_sem, q1_h_0, r1_h_0, q1_h_1, r1_h_1, q1_h_2, r1_h_2, z1_h, q1_h_1_0, r1_h_1_0, z1_h_1]
  have z2_h : w.heap.size < w2.heap.size := kz2 _ (by first | assumption | (simp; done) | (simp; omega) | omega)
  have q2_h_1_0 : w2.cell? ⟨w.heap.size + 1, 0, none⟩ = some (.int .i64 m) := by rw [kc2 _ _ (by first | assumption | (simp; done) | (simp; omega) | omega)]; simp [go_sem, q1_h_0, r1_h_0, q1_h_1, r1_h_1, q1_h_2, r1_h_2, z1_h, q1_h_1_0, r1_h_1_0, z1_h_1]
  have r2_h_1_0 : w2.frozen? ⟨w.heap.size + 1, 0, none⟩ = false := by rw [kf2 _ _ (by first | assumption | (simp; done) | (simp; omega) | omega)]; simp [go_sem, q1_h_0, r1_h_0, q1_h_1, r1_h_1, q1_h_2, r1_h_2, z1_h, q1_h_1_0, r1_h_1_0, z1_h_1]
  have z2_h_1 : w.heap.size + 1 < w2.heap.size := kz2 _ (by first | assumption | (simp; done) | (simp; omega) | omega)
  clear kc2 kf2 kz2 ky2 kx2 kv2 ku2 hb2 q1_h_0 r1_h_0 q1_h_1 r1_h_1 q1_h_2 r1_h_2 z1_h q1_h_1_0 r1_h_1_0 z1_h_1
  (go_wp2_with fail; refine (isOf_impl _ _ _ _ _ _ _ _).mono ?_; rintro e w3 ⟨rfl, hb3⟩; rw [n2]; (have ha3 : Below w.heap.size w w3 := by (repeat (first | with_reducible exact Below.refl _ _ | with_reducible assumption | with_reducible refine balloc ?_ _ | with_reducible refine bdrew ?_ | with_reducible refine below_drewN ?_ _ | with_reducible refine bset ?_ ?_ _ | with_reducible exact Nat.le_refl _ | with_reducible refine bsize ?_ | (dsimp only; refine Nat.le_trans ?_ (Nat.le_add_right _ _)) | with_reducible refine Nat.le_trans ?_ (Nat.le_add_right _ _) | (with_reducible refine bstep ?_ (by assumption))))); obtain ⟨kc3, kf3, kz3, ky3, kx3, kv3, ku3⟩ := bcell hb3)
  have fA3 := fA2.later hb3
  have fB3 := fB2.later hb3
  clear fA2 fB2
  have q3_h_0 : w3.cell? ⟨w.heap.size, 0, none⟩ = some (.int .i64 4) := by rw [kc3 _ _ (by first | assumption | (simp; done) | (simp; omega) | omega)]; simp [go_sem, q2_h_0, r2_h_0, q2_h_1, r2_h_1, q2_h_2, r2_h_2, z2_h, q2_h_1_0, r2_h_1_0, z2_h_1]
  have r3_h_0 : w3.frozen? ⟨w.heap.size, 0, none⟩ = false := by rw [kf3 _ _ (by first | assumption | (simp; done) | (simp; omega) | omega)]; simp [go_sem, q2_h_0, r2_h_0, q2_h_1, r2_h_1, q2_h_2, r2_h_2, z2_h, q2_h_1_0, r2_h_1_0, z2_h_1]
  have q3_h_1 : w3.cell? ⟨w.heap.size, 1, none⟩ = some (.int .i64 a) := by rw [kc3 _ _ (by first | assumption | (simp; done) | (simp; omega) | omega)]; simp [go_sem, q2_h_0, r2_h_0, q2_h_1, r2_h_1, q2_h_2, r2_h_2, z2_h, q2_h_1_0, r2_h_1_0, z2_h_1]
  have r3_h_1 : w3.frozen? ⟨w.heap.size, 1, none⟩ = false := by rw [kf3 _ _ (by first | assumption | (simp; done) | (simp; omega) | omega)]; simp [go_sem, q2_h_0, r2_h_0, q2_h_1, r2_h_1, q2_h_2, r2_h_2, z2_h, q2_h_1_0, r2_h_1_0, z2_h_1]
  have q3_h_2 : w3.cell? ⟨w.heap.size, 2, none⟩ = some (.int .i64 b) := by rw [kc3 _ _ (by first | assumption | (simp; done) | (simp; omega) | omega)]; simp [go_sem, q2_h_0, r2_h_0, q2_h_1, r2_h_1, q2_h_2, r2_h_2, z2_h, q2_h_1_0, r2_h_1_0, z2_h_1]
  have r3_h_2 : w3.frozen? ⟨w.heap.size, 2, none⟩ = false := by rw [kf3 _ _ (by first | assumption | (simp; done) | (simp; omega) | omega)]; simp [go_sem, q2_h_0, r2_h_0, q2_h_1, r2_h_1, q2_h_2, r2_h_2, z2_h, q2_h_1_0, r2_h_1_0, z2_h_1]
  have z3_h : w.heap.size < w3.heap.size := kz3 _ (by first | assumption | (simp; done) | (simp; omega) | omega)
  have q3_h_1_0 : w3.cell? ⟨w.heap.size + 1, 0, none⟩ = some (.int .i64 m) := by rw [kc3 _ _ (by first | assumption | (simp; done) | (simp; omega) | omega)]; simp [go_sem, q2_h_0, r2_h_0, q2_h_1, r2_h_1, q2_h_2, r2_h_2, z2_h, q2_h_1_0, r2_h_1_0, z2_h_1]
  have r3_h_1_0 : w3.frozen? ⟨w.heap.size + 1, 0, none⟩ = false := by rw [kf3 _ _ (by first | assumption | (simp; done) | (simp; omega) | omega)]; simp [go_sem, q2_h_0, r2_h_0, q2_h_1, r2_h_1, q2_h_2, r2_h_2, z2_h, q2_h_1_0, r2_h_1_0, z2_h_1]
  have z3_h_1 : w.heap.size + 1 < w3.heap.size := kz3 _ (by first | assumption | (simp; done) | (simp; omega) | omega)
  clear kc3 kf3 kz3 ky3 kx3 kv3 ku3 hb3 q2_h_0 r2_h_0 q2_h_1 r2_h_1 q2_h_2 r2_h_2 z2_h q2_h_1_0 r2_h_1_0 z2_h_1
  (go_wp2_with fail; refine (isOf_impl _ _ _ _ _ _ _ _).mono ?_; rintro e w4 ⟨rfl, hb4⟩; rw [n3]; (have ha4 : Below w.heap.size w w4 := by (repeat (first | with_reducible exact Below.refl _ _ | with_reducible assumption | with_reducible refine balloc ?_ _ | with_reducible refine bdrew ?_ | with_reducible refine below_drewN ?_ _ | with_reducible refine bset ?_ ?_ _ | with_reducible exact Nat.le_refl _ | with_reducible refine bsize ?_ | (dsimp only; refine Nat.le_trans ?_ (Nat.le_add_right _ _)) | with_reducible refine Nat.le_trans ?_ (Nat.le_add_right _ _) | (with_reducible refine bstep ?_ (by assumption))))); obtain ⟨kc4, kf4, kz4, ky4, kx4, kv4, ku4⟩ := bcell hb4)
  have fA4 := fA3.later hb4
  have fB4 := fB3.later hb4
  clear fA3 fB3
  have q4_h_0 : w4.cell? ⟨w.heap.size, 0, none⟩ = some (.int .i64 4) := by rw [kc4 _ _ (by first | assumption | (simp; done) | (simp; omega) | omega)]; simp [go_sem, q3_h_0, r3_h_0, q3_h_1, r3_h_1, q3_h_2, r3_h_2, z3_h, q3_h_1_0, r3_h_1_0, z3_h_1]
  have r4_h_0 : w4.frozen? ⟨w.heap.size, 0, none⟩ = false := by rw [kf4 _ _ (by first | assumption | (simp; done) | (simp; omega) | omega)]; simp [go_sem, q3_h_0, r3_h_0, q3_h_1, r3_h_1, q3_h_2, r3_h_2, z3_h, q3_h_1_0, r3_h_1_0, z3_h_1]
  have q4_h_1 : w4.cell? ⟨w.heap.size, 1, none⟩ = some (.int .i64 a) := by rw [kc4 _ _ (by first | assumption | (simp; done) | (simp; omega) | omega)]; simp [go_sem, q3_h_0, r3_h_0, q3_h_1, r3_h_1, q3_h_2, r3_h_2, z3_h, q3_h_1_0, r3_h_1_0, z3_h_1]
  have r4_h_1 : w4.frozen? ⟨w.heap.size, 1, none⟩ = false := by rw [kf4 _ _ (by first | assumption | (simp; done) | (simp; omega) | omega)]; simp [go_sem, q3_h_0, r3_h_0, q3_h_1, r3_h_1, q3_h_2, r3_h_2, z3_h, q3_h_1_0, r3_h_1_0, z3_h_1]
  have q4_h_2 : w4.cell? ⟨w.heap.size, 2, none⟩ = some (.int .i64 b) := by rw [kc4 _ _ (by first | assumption | (simp; done) | (simp; omega) | omega)]; simp [go_sem, q3_h_0, r3_h_0, q3_h_1, r3_h_1, q3_h_2, r3_h_2, z3_h, q3_h_1_0, r3_h_1_0, z3_h_1]
  have r4_h_2 : w4.frozen? ⟨w.heap.size, 2, none⟩ = false := by rw [kf4 _ _ (by first | assumption | (simp; done) | (simp; omega) | omega)]; simp [go_sem, q3_h_0, r3_h_0, q3_h_1, r3_h_1, q3_h_2, r3_h_2, z3_h, q3_h_1_0, r3_h_1_0, z3_h_1]
  have z4_h : w.heap.size < w4.heap.size := kz4 _ (by first | assumption | (simp; done) | (simp; omega) | omega)
  have q4_h_1_0 : w4.cell? ⟨w.heap.size + 1, 0, none⟩ = some (.int .i64 m) := by rw [kc4 _ _ (by first | assumption | (simp; done) | (simp; omega) | omega)]; simp [go_sem, q3_h_0, r3_h_0, q3_h_1, r3_h_1, q3_h_2, r3_h_2, z3_h, q3_h_1_0, r3_h_1_0, z3_h_1]
  have r4_h_1_0 : w4.frozen? ⟨w.heap.size + 1, 0, none⟩ = false := by rw [kf4 _ _ (by first | assumption | (simp; done) | (simp; omega) | omega)]; simp [go_sem, q3_h_0, r3_h_0, q3_h_1, r3_h_1, q3_h_2, r3_h_2, z3_h, q3_h_1_0, r3_h_1_0, z3_h_1]
  have z4_h_1 : w.heap.size + 1 < w4.heap.size := kz4 _ (by first | assumption | (simp; done) | (simp; omega) | omega)
  clear kc4 kf4 kz4 ky4 kx4 kv4 ku4 hb4 q3_h_0 r3_h_0 q3_h_1 r3_h_1 q3_h_2 r3_h_2 z3_h q3_h_1_0 r3_h_1_0 z3_h_1
  (go_wp2_with fail; refine (isOf_impl _ _ _ _ _ _ _ _).mono ?_; rintro e w5 ⟨rfl, hb5⟩; rw [h]; (have ha5 : Below w.heap.size w w5 := by (repeat (first | with_reducible exact Below.refl _ _ | with_reducible assumption | with_reducible refine balloc ?_ _ | with_reducible refine bdrew ?_ | with_reducible refine below_drewN ?_ _ | with_reducible refine bset ?_ ?_ _ | with_reducible exact Nat.le_refl _ | with_reducible refine bsize ?_ | (dsimp only; refine Nat.le_trans ?_ (Nat.le_add_right _ _)) | with_reducible refine Nat.le_trans ?_ (Nat.le_add_right _ _) | (with_reducible refine bstep ?_ (by assumption))))); obtain ⟨kc5, kf5, kz5, ky5, kx5, kv5, ku5⟩ := bcell hb5)
  have fA5 := fA4.later hb5
  have fB5 := fB4.later hb5
  clear fA4 fB4
  have q5_h_0 : w5.cell? ⟨w.heap.size, 0, none⟩ = some (.int .i64 4) := by rw [kc5 _ _ (by first | assumption | (simp; done) | (simp; omega) | omega)]; simp [go_sem, q4_h_0, r4_h_0, q4_h_1, r4_h_1, q4_h_2, r4_h_2, z4_h, q4_h_1_0, r4_h_1_0, z4_h_1]
  have r5_h_0 : w5.frozen? ⟨w.heap.size, 0, none⟩ = false := by rw [kf5 _ _ (by first | assumption | (simp; done) | (simp; omega) | omega)]; simp [go_sem, q4_h_0, r4_h_0, q4_h_1, r4_h_1, q4_h_2, r4_h_2, z4_h, q4_h_1_0, r4_h_1_0, z4_h_1]
  have q5_h_1 : w5.cell? ⟨w.heap.size, 1, none⟩ = some (.int .i64 a) := by rw [kc5 _ _ (by first | assumption | (simp; done) | (simp; omega) | omega)]; simp [go_sem, q4_h_0, r4_h_0, q4_h_1, r4_h_1, q4_h_2, r4_h_2, z4_h, q4_h_1_0, r4_h_1_0, z4_h_1]
  have r5_h_1 : w5.frozen? ⟨w.heap.size, 1, none⟩ = false := by rw [kf5 _ _ (by first | assumption | (simp; done) | (simp; omega) | omega)]; simp [go_sem, q4_h_0, r4_h_0, q4_h_1, r4_h_1, q4_h_2, r4_h_2, z4_h, q4_h_1_0, r4_h_1_0, z4_h_1]
  have q5_h_2 : w5.cell? ⟨w.heap.size, 2, none⟩ = some (.int .i64 b) := by rw [kc5 _ _ (by first | assumption | (simp; done) | (simp; omega) | omega)]; simp [go_sem, q4_h_0, r4_h_0, q4_h_1, r4_h_1, q4_h_2, r4_h_2, z4_h, q4_h_1_0, r4_h_1_0, z4_h_1]
  have r5_h_2 : w5.frozen? ⟨w.heap.size, 2, none⟩ = false := by rw [kf5 _ _ (by first | assumption | (simp; done) | (simp; omega) | omega)]; simp [go_sem, q4_h_0, r4_h_0, q4_h_1, r4_h_1, q4_h_2, r4_h_2, z4_h, q4_h_1_0, r4_h_1_0, z4_h_1]
  have z5_h : w.heap.size < w5.heap.size := kz5 _ (by first | assumption | (simp; done) | (simp; omega) | omega)
  have q5_h_1_0 : w5.cell? ⟨w.heap.size + 1, 0, none⟩ = some (.int .i64 m) := by rw [kc5 _ _ (by first | assumption | (simp; done) | (simp; omega) | omega)]; simp [go_sem, q4_h_0, r4_h_0, q4_h_1, r4_h_1, q4_h_2, r4_h_2, z4_h, q4_h_1_0, r4_h_1_0, z4_h_1]
  have r5_h_1_0 : w5.frozen? ⟨w.heap.size + 1, 0, none⟩ = false := by rw [kf5 _ _ (by first | assumption | (simp; done) | (simp; omega) | omega)]; simp [go_sem, q4_h_0, r4_h_0, q4_h_1, r4_h_1, q4_h_2, r4_h_2, z4_h, q4_h_1_0, r4_h_1_0, z4_h_1]
  have z5_h_1 : w.heap.size + 1 < w5.heap.size := kz5 _ (by first | assumption | (simp; done) | (simp; omega) | omega)
  clear kc5 kf5 kz5 ky5 kx5 kv5 ku5 hb5 q4_h_0 r4_h_0 q4_h_1 r4_h_1 q4_h_2 r4_h_2 z4_h q4_h_1_0 r4_h_1_0 z4_h_1
  go_wp2
  go_ret
  exact ⟨_, rfl, ⟨w.heap.size, w.heap.size + 1, fA5, fB5, rfl⟩, by (repeat (first | with_reducible exact Below.refl _ _ | with_reducible assumption | with_reducible refine balloc ?_ _ | with_reducible refine bdrew ?_ | with_reducible refine below_drewN ?_ _ | with_reducible refine bset ?_ ?_ _ | with_reducible exact Nat.le_refl _ | with_reducible refine bsize ?_ | (dsimp only; refine Nat.le_trans ?_ (Nat.le_add_right _ _)) | with_reducible refine Nat.le_trans ?_ (Nat.le_add_right _ _) | (with_reducible refine bstep ?_ (by assumption))))⟩
set_option maxHeartbeats 3200000 in
theorem tr_yes_5 (m a b : Int) (hm : 1 ≤ m ∧ m ≤ 10) (h : ofB 5 a b 5 1 m 0 = true) (w : World) :
    Calls Try.prog 36 #[.agg #[.int .i64 5, .int .i64 a, .int .i64 b], .int .i64 m] w fun e w' => ∃ v, e = .returned v ∧ TrialAt m ⟨5, a, b⟩ v w' ∧ Below w.heap.size w w' := by
  have hmf : ∀ (fn : Fn) (first cap : Array Value) (w : World), (Instr.makeFunc fn first cap).run Try.prog w = .ok (.func fn first cap) w := fun _ _ _ _ => rfl
  have n0 : ofB 5 a b 0 1 (m - 1) 0 = false := ofB_ne (by decide)
  have n1 : ofB 5 a b 1 1 (m - 1) 0 = false := ofB_ne (by decide)
  have n2 : ofB 5 a b 2 0 (m - 1) 0 = false := ofB_ne (by decide)
  have n3 : ofB 5 a b 3 1 m (m - 1) = false := ofB_ne (by decide)
  have n4 : ofB 5 a b 4 1 m 0 = false := ofB_ne (by decide)
  go_enter Try.func36, Try.ntmps36
  (go_wp2_with fail; refine (isOf_impl _ _ _ _ _ _ _ _).mono ?_; rintro e w1 ⟨rfl, hb1⟩; rw [n0]; (have ha1 : Below w.heap.size w w1 := by (repeat (first | with_reducible exact Below.refl _ _ | with_reducible assumption | with_reducible refine balloc ?_ _ | with_reducible refine bdrew ?_ | with_reducible refine below_drewN ?_ _ | with_reducible refine bset ?_ ?_ _ | with_reducible exact Nat.le_refl _ | with_reducible refine bsize ?_ | (dsimp only; refine Nat.le_trans ?_ (Nat.le_add_right _ _)) | with_reducible refine Nat.le_trans ?_ (Nat.le_add_right _ _) | (with_reducible refine bstep ?_ (by assumption))))); obtain ⟨kc1, kf1, kz1, ky1, kx1, kv1, ku1⟩ := bcell hb1)
  have fA1 : Blk w.heap.size #[.int .i64 5, .int .i64 a, .int .i64 b] 25 w1 := ((Blk.new w _ _).alloc _).later hb1
  have fB1 : Blk (w.heap.size + 1) #[.int .i64 m] 3 w1 := Blk.later (by have h := Blk.new (w.alloc (.cells #[.int .i64 5, .int .i64 a, .int .i64 b] 25)) #[.int .i64 m] 3; rw [World.size_alloc] at h; exact h) hb1
  have q1_h_0 : w1.cell? ⟨w.heap.size, 0, none⟩ = some (.int .i64 5) := by rw [kc1 _ _ (by first | assumption | (simp; done) | (simp; omega) | omega)]; simp [go_sem]
  have r1_h_0 : w1.frozen? ⟨w.heap.size, 0, none⟩ = false := by rw [kf1 _ _ (by first | assumption | (simp; done) | (simp; omega) | omega)]; simp [go_sem]
  have q1_h_1 : w1.cell? ⟨w.heap.size, 1, none⟩ = some (.int .i64 a) := by rw [kc1 _ _ (by first | assumption | (simp; done) | (simp; omega) | omega)]; simp [go_sem]
  have r1_h_1 : w1.frozen? ⟨w.heap.size, 1, none⟩ = false := by rw [kf1 _ _ (by first | assumption | (simp; done) | (simp; omega) | omega)]; simp [go_sem]
  have q1_h_2 : w1.cell? ⟨w.heap.size, 2, none⟩ = some (.int .i64 b) := by rw [kc1 _ _ (by first | assumption | (simp; done) | (simp; omega) | omega)]; simp [go_sem]
  have r1_h_2 : w1.frozen? ⟨w.heap.size, 2, none⟩ = false := by rw [kf1 _ _ (by first | assumption | (simp; done) | (simp; omega) | omega)]; simp [go_sem]
  have z1_h : w.heap.size < w1.heap.size := kz1 _ (by first | assumption | (simp; done) | (simp; omega) | omega)
  have q1_h_1_0 : w1.cell? ⟨w.heap.size + 1, 0, none⟩ = some (.int .i64 m) := by rw [kc1 _ _ (by first | assumption | (simp; done) | (simp; omega) | omega)]; simp [go_sem]
  have r1_h_1_0 : w1.frozen? ⟨w.heap.size + 1, 0, none⟩ = false := by rw [kf1 _ _ (by first | assumption | (simp; done) | (simp; omega) | omega)]; simp [go_sem]
  have z1_h_1 : w.heap.size + 1 < w1.heap.size := kz1 _ (by first | assumption | (simp; done) | (simp; omega) | omega)
  clear kc1 kf1 kz1 ky1 kx1 kv1 ku1 hb1
  (go_wp2_with fail; refine (isOf_impl _ _ _ _ _ _ _ _).mono ?_; rintro e w2 ⟨rfl, hb2⟩; rw [n1]; (have ha2 : Below w.heap.size w w2 := by (repeat (first | with_reducible exact Below.refl _ _ | with_reducible assumption | with_reducible refine balloc ?_ _ | with_reducible refine bdrew ?_ | with_reducible refine below_drewN ?_ _ | with_reducible refine bset ?_ ?_ _ | with_reducible exact Nat.le_refl _ | with_reducible refine bsize ?_ | (dsimp only; refine Nat.le_trans ?_ (Nat.le_add_right _ _)) | with_reducible refine Nat.le_trans ?_ (Nat.le_add_right _ _) | (with_reducible refine bstep ?_ (by assumption))))); obtain ⟨kc2, kf2, kz2, ky2, kx2, kv2, ku2⟩ := bcell hb2)
  have fA2 := fA1.later hb2
  have fB2 := fB1.later hb2
  clear fA1 fB1
  have q2_h_0 : w2.cell? ⟨w.heap.size, 0, none⟩ = some (.int .i64 5) := by rw [kc2 _ _ (by first | assumption | (simp; done) | (simp; omega) | omega)]; simp [go_sem, q1_h_0, r1_h_0, q1_h_1, r1_h_1, q1_h_2, r1_h_2, z1_h, q1_h_1_0, r1_h_1_0, z1_h_1]
  have r2_h_0 : w2.frozen? ⟨w.heap.size, 0, none⟩ = false := by rw [kf2 _ _ (by first | assumption | (simp; done) | (simp; omega) | omega)]; simp [go_sem, q1_h_0, r1_h_0, q1_h_1, r1_h_1, q1_h_2, r1_h_2, z1_h, q1_h_1_0, r1_h_1_0, z1_h_1]
  have q2_h_1 : w2.cell? ⟨w.heap.size, 1, none⟩ = some (.int .i64 a) := by rw [kc2 _ _ (by first | assumption | (simp; done) | (simp; omega) | omega)]; simp [go_sem, q1_h_0, r1_h_0, q1_h_1, r1_h_1, q1_h_2, r1_h_2, z1_h, q1_h_1_0, r1_h_1_0, z1_h_1]
  have r2_h_1 : w2.frozen? ⟨w.heap.size, 1, none⟩ = false := by rw [kf2 _ _ (by first | assumption | (simp; done) | (simp; omega) | omega)]; simp [go_sem, q1_h_0, r1_h_0, q1_h_1, r1_h_1, q1_h_2, r1_h_2, z1_h, q1_h_1_0, r1_h_1_0, z1_h_1]
  have q2_h_2 : w2.cell? ⟨w.heap.size, 2, none⟩ = some (.int .i64 b) := by rw [kc2 _ _ (by first | assumption | (simp; done) | (simp; omega) | omega)]; simp [go_sem, q1_h_0, r1_h_0, q1_h_1, r1_h_1, q1_h_2, r1_h_2, z1_h, q1_h_1_0, r1_h_1_0, z1_h_1]
  have r2_h_2 : w2.frozen? ⟨w.heap.size, 2, none⟩ = false := by rw [kf2 _ _ (by first | assumption | (simp; done) | (simp; omega) | omega)]; simp [go_sem, q1_h_0, r1_h_0, q1_h_1, r1_h_1, q1_h_2, r1_h_2, z1_h, q1_h_1_0, r1_h_1_0, z1_h_1]
  have z2_h : w.heap.size < w2.heap.size := kz2 _ (by first | assumption | (simp; done) | (simp; omega) | omega)
  have q2_h_1_0 : w2.cell? ⟨w.heap.size + 1, 0, none⟩ = some (.int .i64 m) := by rw [kc2 _ _ (by first | assumption | (simp; done) | (simp; omega) | omega)]; simp [go_sem, q1_h_0, r1_h_0, q1_h_1, r1_h_1, q1_h_2, r1_h_2, z1_h, q1_h_1_0, r1_h_1_0, z1_h_1]
  have r2_h_1_0 : w2.frozen? ⟨w.heap.size + 1, 0, none⟩ = false := by rw [kf2 _ _ (by first | assumption | (simp; done) | (simp; omega) | omega)]; simp [go_sem, q1_h_0, r1_h_0, q1_h_1, r1_h_1, q1_h_2, r1_h_2, z1_h, q1_h_1_0, r1_h_1_0, z1_h_1]
  have z2_h_1 : w.heap.size + 1 < w2.heap.size := kz2 _ (by first | assumption | (simp; done) | (simp; omega) | omega)
  clear kc2 kf2 kz2 ky2 kx2 kv2 ku2 hb2 q1_h_0 r1_h_0 q1_h_1 r1_h_1 q1_h_2 r1_h_2 z1_h q1_h_1_0 r1_h_1_0 z1_h_1
  (go_wp2_with fail; refine (isOf_impl _ _ _ _ _ _ _ _).mono ?_; rintro e w3 ⟨rfl, hb3⟩; rw [n2]; (have ha3 : Below w.heap.size w w3 := by (repeat (first | with_reducible exact Below.refl _ _ | with_reducible assumption | with_reducible refine balloc ?_ _ | with_reducible refine bdrew ?_ | with_reducible refine below_drewN ?_ _ | with_reducible refine bset ?_ ?_ _ | with_reducible exact Nat.le_refl _ | with_reducible refine bsize ?_ | (dsimp only; refine Nat.le_trans ?_ (Nat.le_add_right _ _)) | with_reducible refine Nat.le_trans ?_ (Nat.le_add_right _ _) | (with_reducible refine bstep ?_ (by assumption))))); obtain ⟨kc3, kf3, kz3, ky3, kx3, kv3, ku3⟩ := bcell hb3)
  have fA3 := fA2.later hb3
  have fB3 := fB2.later hb3
  clear fA2 fB2
  have q3_h_0 : w3.cell? ⟨w.heap.size, 0, none⟩ = some (.int .i64 5) := by rw [kc3 _ _ (by first | assumption | (simp; done) | (simp; omega) | omega)]; simp [go_sem, q2_h_0, r2_h_0, q2_h_1, r2_h_1, q2_h_2, r2_h_2, z2_h, q2_h_1_0, r2_h_1_0, z2_h_1]
  have r3_h_0 : w3.frozen? ⟨w.heap.size, 0, none⟩ = false := by rw [kf3 _ _ (by first | assumption | (simp; done) | (simp; omega) | omega)]; simp [go_sem, q2_h_0, r2_h_0, q2_h_1, r2_h_1, q2_h_2, r2_h_2, z2_h, q2_h_1_0, r2_h_1_0, z2_h_1]
  have q3_h_1 : w3.cell? ⟨w.heap.size, 1, none⟩ = some (.int .i64 a) := by rw [kc3 _ _ (by first | assumption | (simp; done) | (simp; omega) | omega)]; simp [go_sem, q2_h_0, r2_h_0, q2_h_1, r2_h_1, q2_h_2, r2_h_2, z2_h, q2_h_1_0, r2_h_1_0, z2_h_1]
  have r3_h_1 : w3.frozen? ⟨w.heap.size, 1, none⟩ = false := by rw [kf3 _ _ (by first | assumption | (simp; done) | (simp; omega) | omega)]; simp [go_sem, q2_h_0, r2_h_0, q2_h_1, r2_h_1, q2_h_2, r2_h_2, z2_h, q2_h_1_0, r2_h_1_0, z2_h_1]
  have q3_h_2 : w3.cell? ⟨w.heap.size, 2, none⟩ = some (.int .i64 b) := by rw [kc3 _ _ (by first | assumption | (simp; done) | (simp; omega) | omega)]; simp [go_sem, q2_h_0, r2_h_0, q2_h_1, r2_h_1, q2_h_2, r2_h_2, z2_h, q2_h_1_0, r2_h_1_0, z2_h_1]
  have r3_h_2 : w3.frozen? ⟨w.heap.size, 2, none⟩ = false := by rw [kf3 _ _ (by first | assumption | (simp; done) | (simp; omega) | omega)]; simp [go_sem, q2_h_0, r2_h_0, q2_h_1, r2_h_1, q2_h_2, r2_h_2, z2_h, q2_h_1_0, r2_h_1_0, z2_h_1]
  have z3_h : w.heap.size < w3.heap.size := kz3 _ (by first | assumption | (simp; done) | (simp; omega) | omega)
  have q3_h_1_0 : w3.cell? ⟨w.heap.size + 1, 0, none⟩ = some (.int .i64 m) := by rw [kc3 _ _ (by first | assumption | (simp; done) | (simp; omega) | omega)]; simp [go_sem, q2_h_0, r2_h_0, q2_h_1, r2_h_1, q2_h_2, r2_h_2, z2_h, q2_h_1_0, r2_h_1_0, z2_h_1]
  have r3_h_1_0 : w3.frozen? ⟨w.heap.size + 1, 0, none⟩ = false := by rw [kf3 _ _ (by first | assumption | (simp; done) | (simp; omega) | omega)]; simp [go_sem, q2_h_0, r2_h_0, q2_h_1, r2_h_1, q2_h_2, r2_h_2, z2_h, q2_h_1_0, r2_h_1_0, z2_h_1]
  have z3_h_1 : w.heap.size + 1 < w3.heap.size := kz3 _ (by first | assumption | (simp; done) | (simp; omega) | omega)
  clear kc3 kf3 kz3 ky3 kx3 kv3 ku3 hb3 q2_h_0 r2_h_0 q2_h_1 r2_h_1 q2_h_2 r2_h_2 z2_h q2_h_1_0 r2_h_1_0 z2_h_1
  (go_wp2_with fail; refine (isOf_impl _ _ _ _ _ _ _ _).mono ?_; rintro e w4 ⟨rfl, hb4⟩; rw [n3]; (have ha4 : Below w.heap.size w w4 := by (repeat (first | with_reducible exact Below.refl _ _ | with_reducible assumption | with_reducible refine balloc ?_ _ | with_reducible refine bdrew ?_ | with_reducible refine below_drewN ?_ _ | with_reducible refine bset ?_ ?_ _ | with_reducible exact Nat.le_refl _ | with_reducible refine bsize ?_ | (dsimp only; refine Nat.le_trans ?_ (Nat.le_add_right _ _)) | with_reducible refine Nat.le_trans ?_ (Nat.le_add_right _ _) | (with_reducible refine bstep ?_ (by assumption))))); obtain ⟨kc4, kf4, kz4, ky4, kx4, kv4, ku4⟩ := bcell hb4)
  have fA4 := fA3.later hb4
  have fB4 := fB3.later hb4
  clear fA3 fB3
  have q4_h_0 : w4.cell? ⟨w.heap.size, 0, none⟩ = some (.int .i64 5) := by rw [kc4 _ _ (by first | assumption | (simp; done) | (simp; omega) | omega)]; simp [go_sem, q3_h_0, r3_h_0, q3_h_1, r3_h_1, q3_h_2, r3_h_2, z3_h, q3_h_1_0, r3_h_1_0, z3_h_1]
  have r4_h_0 : w4.frozen? ⟨w.heap.size, 0, none⟩ = false := by rw [kf4 _ _ (by first | assumption | (simp; done) | (simp; omega) | omega)]; simp [go_sem, q3_h_0, r3_h_0, q3_h_1, r3_h_1, q3_h_2, r3_h_2, z3_h, q3_h_1_0, r3_h_1_0, z3_h_1]
  have q4_h_1 : w4.cell? ⟨w.heap.size, 1, none⟩ = some (.int .i64 a) := by rw [kc4 _ _ (by first | assumption | (simp; done) | (simp; omega) | omega)]; simp [go_sem, q3_h_0, r3_h_0, q3_h_1, r3_h_1, q3_h_2, r3_h_2, z3_h, q3_h_1_0, r3_h_1_0, z3_h_1]
  have r4_h_1 : w4.frozen? ⟨w.heap.size, 1, none⟩ = false := by rw [kf4 _ _ (by first | assumption | (simp; done) | (simp; omega) | omega)]; simp [go_sem, q3_h_0, r3_h_0, q3_h_1, r3_h_1, q3_h_2, r3_h_2, z3_h, q3_h_1_0, r3_h_1_0, z3_h_1]
  have q4_h_2 : w4.cell? ⟨w.heap.size, 2, none⟩ = some (.int .i64 b) := by rw [kc4 _ _ (by first | assumption | (simp; done) | (simp; omega) | omega)]; simp [go_sem, q3_h_0, r3_h_0, q3_h_1, r3_h_1, q3_h_2, r3_h_2, z3_h, q3_h_1_0, r3_h_1_0, z3_h_1]
  have r4_h_2 : w4.frozen? ⟨w.heap.size, 2, none⟩ = false := by rw [kf4 _ _ (by first | assumption | (simp; done) | (simp; omega) | omega)]; simp [go_sem, q3_h_0, r3_h_0, q3_h_1, r3_h_1, q3_h_2, r3_h_2, z3_h, q3_h_1_0, r3_h_1_0, z3_h_1]
  have z4_h : w.heap.size < w4.heap.size := kz4 _ (by first | assumption | (simp; done) | (simp; omega) | omega)
  have q4_h_1_0 : w4.cell? ⟨w.heap.size + 1, 0, none⟩ = some (.int .i64 m) := by rw [kc4 _ _ (by first | assumption | (simp; done) | (simp; omega) | omega)]; simp [go_sem, q3_h_0, r3_h_0, q3_h_1, r3_h_1, q3_h_2, r3_h_2, z3_h, q3_h_1_0, r3_h_1_0, z3_h_1]
  have r4_h_1_0 : w4.frozen? ⟨w.heap.size + 1, 0, none⟩ = false := by rw [kf4 _ _ (by first | assumption | (simp; done) | (simp; omega) | omega)]; simp [go_sem, q3_h_0, r3_h_0, q3_h_1, r3_h_1, q3_h_2, r3_h_2, z3_h, q3_h_1_0, r3_h_1_0, z3_h_1]
  have z4_h_1 : w.heap.size + 1 < w4.heap.size := kz4 _ (by first | assumption | (simp; done) | (simp; omega) | omega)
  clear kc4 kf4 kz4 ky4 kx4 kv4 ku4 hb4 q3_h_0 r3_h_0 q3_h_1 r3_h_1 q3_h_2 r3_h_2 z3_h q3_h_1_0 r3_h_1_0 z3_h_1
  (go_wp2_with fail; refine (isOf_impl _ _ _ _ _ _ _ _).mono ?_; rintro e w5 ⟨rfl, hb5⟩; rw [n4]; (have ha5 : Below w.heap.size w w5 := by (repeat (first | with_reducible exact Below.refl _ _ | with_reducible assumption | with_reducible refine balloc ?_ _ | with_reducible refine bdrew ?_ | with_reducible refine below_drewN ?_ _ | with_reducible refine bset ?_ ?_ _ | with_reducible exact Nat.le_refl _ | with_reducible refine bsize ?_ | (dsimp only; refine Nat.le_trans ?_ (Nat.le_add_right _ _)) | with_reducible refine Nat.le_trans ?_ (Nat.le_add_right _ _) | (with_reducible refine bstep ?_ (by assumption))))); obtain ⟨kc5, kf5, kz5, ky5, kx5, kv5, ku5⟩ := bcell hb5)
  have fA5 := fA4.later hb5
  have fB5 := fB4.later hb5
  clear fA4 fB4
  have q5_h_0 : w5.cell? ⟨w.heap.size, 0, none⟩ = some (.int .i64 5) := by rw [kc5 _ _ (by first | assumption | (simp; done) | (simp; omega) | omega)]; simp [go_sem, q4_h_0, r4_h_0, q4_h_1, r4_h_1, q4_h_2, r4_h_2, z4_h, q4_h_1_0, r4_h_1_0, z4_h_1]
  have r5_h_0 : w5.frozen? ⟨w.heap.size, 0, none⟩ = false := by rw [kf5 _ _ (by first | assumption | (simp; done) | (simp; omega) | omega)]; simp [go_sem, q4_h_0, r4_h_0, q4_h_1, r4_h_1, q4_h_2, r4_h_2, z4_h, q4_h_1_0, r4_h_1_0, z4_h_1]
  have q5_h_1 : w5.cell? ⟨w.heap.size, 1, none⟩ = some (.int .i64 a) := by rw [kc5 _ _ (by first | assumption | (simp; done) | (simp; omega) | omega)]; simp [go_sem, q4_h_0, r4_h_0, q4_h_1, r4_h_1, q4_h_2, r4_h_2, z4_h, q4_h_1_0, r4_h_1_0, z4_h_1]
  have r5_h_1 : w5.frozen? ⟨w.heap.size, 1, none⟩ = false := by rw [kf5 _ _ (by first | assumption | (simp; done) | (simp; omega) | omega)]; simp [go_sem, q4_h_0, r4_h_0, q4_h_1, r4_h_1, q4_h_2, r4_h_2, z4_h, q4_h_1_0, r4_h_1_0, z4_h_1]
  have q5_h_2 : w5.cell? ⟨w.heap.size, 2, none⟩ = some (.int .i64 b) := by rw [kc5 _ _ (by first | assumption | (simp; done) | (simp; omega) | omega)]; simp [go_sem, q4_h_0, r4_h_0, q4_h_1, r4_h_1, q4_h_2, r4_h_2, z4_h, q4_h_1_0, r4_h_1_0, z4_h_1]
  have r5_h_2 : w5.frozen? ⟨w.heap.size, 2, none⟩ = false := by rw [kf5 _ _ (by first | assumption | (simp; done) | (simp; omega) | omega)]; simp [go_sem, q4_h_0, r4_h_0, q4_h_1, r4_h_1, q4_h_2, r4_h_2, z4_h, q4_h_1_0, r4_h_1_0, z4_h_1]
  have z5_h : w.heap.size < w5.heap.size := kz5 _ (by first | assumption | (simp; done) | (simp; omega) | omega)
  have q5_h_1_0 : w5.cell? ⟨w.heap.size + 1, 0, none⟩ = some (.int .i64 m) := by rw [kc5 _ _ (by first | assumption | (simp; done) | (simp; omega) | omega)]; simp [go_sem, q4_h_0, r4_h_0, q4_h_1, r4_h_1, q4_h_2, r4_h_2, z4_h, q4_h_1_0, r4_h_1_0, z4_h_1]
  have r5_h_1_0 : w5.frozen? ⟨w.heap.size + 1, 0, none⟩ = false := by rw [kf5 _ _ (by first | assumption | (simp; done) | (simp; omega) | omega)]; simp [go_sem, q4_h_0, r4_h_0, q4_h_1, r4_h_1, q4_h_2, r4_h_2, z4_h, q4_h_1_0, r4_h_1_0, z4_h_1]
  have z5_h_1 : w.heap.size + 1 < w5.heap.size := kz5 _ (by first | assumption | (simp; done) | (simp; omega) | omega)
  clear kc5 kf5 kz5 ky5 kx5 kv5 ku5 hb5 q4_h_0 r4_h_0 q4_h_1 r4_h_1 q4_h_2 r4_h_2 z4_h q4_h_1_0 r4_h_1_0 z4_h_1
  (go_wp2_with fail; refine (isOf_impl _ _ _ _ _ _ _ _).mono ?_; rintro e w6 ⟨rfl, hb6⟩; rw [h]; (have ha6 : Below w.heap.size w w6 := by (repeat (first | with_reducible exact Below.refl _ _ | with_reducible assumption | with_reducible refine balloc ?_ _ | with_reducible refine bdrew ?_ | with_reducible refine below_drewN ?_ _ | with_reducible refine bset ?_ ?_ _ | with_reducible exact Nat.le_refl _ | with_reducible refine bsize ?_ | (dsimp only; refine Nat.le_trans ?_ (Nat.le_add_right _ _)) | with_reducible refine Nat.le_trans ?_ (Nat.le_add_right _ _) | (with_reducible refine bstep ?_ (by assumption))))); obtain ⟨kc6, kf6, kz6, ky6, kx6, kv6, ku6⟩ := bcell hb6)
  have fA6 := fA5.later hb6
  have fB6 := fB5.later hb6
  clear fA5 fB5
  have q6_h_0 : w6.cell? ⟨w.heap.size, 0, none⟩ = some (.int .i64 5) := by rw [kc6 _ _ (by first | assumption | (simp; done) | (simp; omega) | omega)]; simp [go_sem, q5_h_0, r5_h_0, q5_h_1, r5_h_1, q5_h_2, r5_h_2, z5_h, q5_h_1_0, r5_h_1_0, z5_h_1]
  have r6_h_0 : w6.frozen? ⟨w.heap.size, 0, none⟩ = false := by rw [kf6 _ _ (by first | assumption | (simp; done) | (simp; omega) | omega)]; simp [go_sem, q5_h_0, r5_h_0, q5_h_1, r5_h_1, q5_h_2, r5_h_2, z5_h, q5_h_1_0, r5_h_1_0, z5_h_1]
  have q6_h_1 : w6.cell? ⟨w.heap.size, 1, none⟩ = some (.int .i64 a) := by rw [kc6 _ _ (by first | assumption | (simp; done) | (simp; omega) | omega)]; simp [go_sem, q5_h_0, r5_h_0, q5_h_1, r5_h_1, q5_h_2, r5_h_2, z5_h, q5_h_1_0, r5_h_1_0, z5_h_1]
  have r6_h_1 : w6.frozen? ⟨w.heap.size, 1, none⟩ = false := by rw [kf6 _ _ (by first | assumption | (simp; done) | (simp; omega) | omega)]; simp [go_sem, q5_h_0, r5_h_0, q5_h_1, r5_h_1, q5_h_2, r5_h_2, z5_h, q5_h_1_0, r5_h_1_0, z5_h_1]
  have q6_h_2 : w6.cell? ⟨w.heap.size, 2, none⟩ = some (.int .i64 b) := by rw [kc6 _ _ (by first | assumption | (simp; done) | (simp; omega) | omega)]; simp [go_sem, q5_h_0, r5_h_0, q5_h_1, r5_h_1, q5_h_2, r5_h_2, z5_h, q5_h_1_0, r5_h_1_0, z5_h_1]
  have r6_h_2 : w6.frozen? ⟨w.heap.size, 2, none⟩ = false := by rw [kf6 _ _ (by first | assumption | (simp; done) | (simp; omega) | omega)]; simp [go_sem, q5_h_0, r5_h_0, q5_h_1, r5_h_1, q5_h_2, r5_h_2, z5_h, q5_h_1_0, r5_h_1_0, z5_h_1]
  have z6_h : w.heap.size < w6.heap.size := kz6 _ (by first | assumption | (simp; done) | (simp; omega) | omega)
  have q6_h_1_0 : w6.cell? ⟨w.heap.size + 1, 0, none⟩ = some (.int .i64 m) := by rw [kc6 _ _ (by first | assumption | (simp; done) | (simp; omega) | omega)]; simp [go_sem, q5_h_0, r5_h_0, q5_h_1, r5_h_1, q5_h_2, r5_h_2, z5_h, q5_h_1_0, r5_h_1_0, z5_h_1]
  have r6_h_1_0 : w6.frozen? ⟨w.heap.size + 1, 0, none⟩ = false := by rw [kf6 _ _ (by first | assumption | (simp; done) | (simp; omega) | omega)]; simp [go_sem, q5_h_0, r5_h_0, q5_h_1, r5_h_1, q5_h_2, r5_h_2, z5_h, q5_h_1_0, r5_h_1_0, z5_h_1]
  have z6_h_1 : w.heap.size + 1 < w6.heap.size := kz6 _ (by first | assumption | (simp; done) | (simp; omega) | omega)
  clear kc6 kf6 kz6 ky6 kx6 kv6 ku6 hb6 q5_h_0 r5_h_0 q5_h_1 r5_h_1 q5_h_2 r5_h_2 z5_h q5_h_1_0 r5_h_1_0 z5_h_1
  go_wp2
  go_ret
  exact ⟨_, rfl, ⟨w.heap.size, w.heap.size + 1, fA6, fB6, rfl⟩, by (repeat (first | with_reducible exact Below.refl _ _ | with_reducible assumption | with_reducible refine balloc ?_ _ | with_reducible refine bdrew ?_ | with_reducible refine below_drewN ?_ _ | with_reducible refine bset ?_ ?_ _ | with_reducible exact Nat.le_refl _ | with_reducible refine bsize ?_ | (dsimp only; refine Nat.le_trans ?_ (Nat.le_add_right _ _)) | with_reducible refine Nat.le_trans ?_ (Nat.le_add_right _ _) | (with_reducible refine bstep ?_ (by assumption))))⟩
set_option maxHeartbeats 3200000 in
theorem tr_no (m k a b : Int) (hm : 1 ≤ m ∧ m ≤ 10) (h : clB m k a b = false) (w : World) :
    Calls Try.prog 36 #[.agg #[.int .i64 k, .int .i64 a, .int .i64 b], .int .i64 m] w fun e w' => e = .panicked [{ v := .iface 25 (.agg #[.int .i64 k, .int .i64 a, .int .i64 b]), recovered := false }] ∧ Below w.heap.size w w' := by
  have hmf : ∀ (fn : Fn) (first cap : Array Value) (w : World), (Instr.makeFunc fn first cap).run Try.prog w = .ok (.func fn first cap) w := fun _ _ _ _ => rfl
  simp only [clB, Bool.or_eq_false_iff] at h
  obtain ⟨⟨⟨⟨⟨n0, n1⟩, n2⟩, n3⟩, n4⟩, n5⟩ := h
  go_enter Try.func36, Try.ntmps36
  (go_wp2_with fail; refine (isOf_impl _ _ _ _ _ _ _ _).mono ?_; rintro e w1 ⟨rfl, hb1⟩; rw [n0]; (have ha1 : Below w.heap.size w w1 := by (repeat (first | with_reducible exact Below.refl _ _ | with_reducible assumption | with_reducible refine balloc ?_ _ | with_reducible refine bdrew ?_ | with_reducible refine below_drewN ?_ _ | with_reducible refine bset ?_ ?_ _ | with_reducible exact Nat.le_refl _ | with_reducible refine bsize ?_ | (dsimp only; refine Nat.le_trans ?_ (Nat.le_add_right _ _)) | with_reducible refine Nat.le_trans ?_ (Nat.le_add_right _ _) | (with_reducible refine bstep ?_ (by assumption))))); obtain ⟨kc1, kf1, kz1, ky1, kx1, kv1, ku1⟩ := bcell hb1)
  have q1_h_0 : w1.cell? ⟨w.heap.size, 0, none⟩ = some (.int .i64 k) := by rw [kc1 _ _ (by first | assumption | (simp; done) | (simp; omega) | omega)]; simp [go_sem]
  have r1_h_0 : w1.frozen? ⟨w.heap.size, 0, none⟩ = false := by rw [kf1 _ _ (by first | assumption | (simp; done) | (simp; omega) | omega)]; simp [go_sem]
  have q1_h_1 : w1.cell? ⟨w.heap.size, 1, none⟩ = some (.int .i64 a) := by rw [kc1 _ _ (by first | assumption | (simp; done) | (simp; omega) | omega)]; simp [go_sem]
  have r1_h_1 : w1.frozen? ⟨w.heap.size, 1, none⟩ = false := by rw [kf1 _ _ (by first | assumption | (simp; done) | (simp; omega) | omega)]; simp [go_sem]
  have q1_h_2 : w1.cell? ⟨w.heap.size, 2, none⟩ = some (.int .i64 b) := by rw [kc1 _ _ (by first | assumption | (simp; done) | (simp; omega) | omega)]; simp [go_sem]
  have r1_h_2 : w1.frozen? ⟨w.heap.size, 2, none⟩ = false := by rw [kf1 _ _ (by first | assumption | (simp; done) | (simp; omega) | omega)]; simp [go_sem]
  have z1_h : w.heap.size < w1.heap.size := kz1 _ (by first | assumption | (simp; done) | (simp; omega) | omega)
  have q1_h_1_0 : w1.cell? ⟨w.heap.size + 1, 0, none⟩ = some (.int .i64 m) := by rw [kc1 _ _ (by first | assumption | (simp; done) | (simp; omega) | omega)]; simp [go_sem]
  have r1_h_1_0 : w1.frozen? ⟨w.heap.size + 1, 0, none⟩ = false := by rw [kf1 _ _ (by first | assumption | (simp; done) | (simp; omega) | omega)]; simp [go_sem]
  have z1_h_1 : w.heap.size + 1 < w1.heap.size := kz1 _ (by first | assumption | (simp; done) | (simp; omega) | omega)
  clear kc1 kf1 kz1 ky1 kx1 kv1 ku1 hb1
  (go_wp2_with fail; refine (isOf_impl _ _ _ _ _ _ _ _).mono ?_; rintro e w2 ⟨rfl, hb2⟩; rw [n1]; (have ha2 : Below w.heap.size w w2 := by (repeat (first | with_reducible exact Below.refl _ _ | with_reducible assumption | with_reducible refine balloc ?_ _ | with_reducible refine bdrew ?_ | with_reducible refine below_drewN ?_ _ | with_reducible refine bset ?_ ?_ _ | with_reducible exact Nat.le_refl _ | with_reducible refine bsize ?_ | (dsimp only; refine Nat.le_trans ?_ (Nat.le_add_right _ _)) | with_reducible refine Nat.le_trans ?_ (Nat.le_add_right _ _) | (with_reducible refine bstep ?_ (by assumption))))); obtain ⟨kc2, kf2, kz2, ky2, kx2, kv2, ku2⟩ := bcell hb2)
  have q2_h_0 : w2.cell? ⟨w.heap.size, 0, none⟩ = some (.int .i64 k) := by rw [kc2 _ _ (by first | assumption | (simp; done) | (simp; omega) | omega)]; simp [go_sem, q1_h_0, r1_h_0, q1_h_1, r1_h_1, q1_h_2, r1_h_2, z1_h, q1_h_1_0, r1_h_1_0, z1_h_1]
  have r2_h_0 : w2.frozen? ⟨w.heap.size, 0, none⟩ = false := by rw [kf2 _ _ (by first | assumption | (simp; done) | (simp; omega) | omega)]; simp [go_sem, q1_h_0, r1_h_0, q1_h_1, r1_h_1, q1_h_2, r1_h_2, z1_h, q1_h_1_0, r1_h_1_0, z1_h_1]
  have q2_h_1 : w2.cell? ⟨w.heap.size, 1, none⟩ = some (.int .i64 a) := by rw [kc2 _ _ (by first | assumption | (simp; done) | (simp; omega) | omega)]; simp [go_sem, q1_h_0, r1_h_0, q1_h_1, r1_h_1, q1_h_2, r1_h_2, z1_h, q1_h_1_0, r1_h_1_0, z1_h_1]
  have r2_h_1 : w2.frozen? ⟨w.heap.size, 1, none⟩ = false := by rw [kf2 _ _ (by first | assumption | (simp; done) | (simp; omega) | omega)]; simp [go_sem, q1_h_0, r1_h_0, q1_h_1, r1_h_1, q1_h_2, r1_h_2, z1_h, q1_h_1_0, r1_h_1_0, z1_h_1]
  have q2_h_2 : w2.cell? ⟨w.heap.size, 2, none⟩ = some (.int .i64 b) := by rw [kc2 _ _ (by first | assumption | (simp; done) | (simp; omega) | omega)]; simp [go_sem, q1_h_0, r1_h_0, q1_h_1, r1_h_1, q1_h_2, r1_h_2, z1_h, q1_h_1_0, r1_h_1_0, z1_h_1]
  have r2_h_2 : w2.frozen? ⟨w.heap.size, 2, none⟩ = false := by rw [kf2 _ _ (by first | assumption | (simp; done) | (simp; omega) | omega)]; simp [go_sem, q1_h_0, r1_h_0, q1_h_1, r1_h_1, q1_h_2, r1_h_2, z1_h, q1_h_1_0, r1_h_1_0, z1_h_1]
  have z2_h : w.heap.size < w2.heap.size := kz2 _ (by first | assumption | (simp; done) | (simp; omega) | omega)
  have q2_h_1_0 : w2.cell? ⟨w.heap.size + 1, 0, none⟩ = some (.int .i64 m) := by rw [kc2 _ _ (by first | assumption | (simp; done) | (simp; omega) | omega)]; simp [go_sem, q1_h_0, r1_h_0, q1_h_1, r1_h_1, q1_h_2, r1_h_2, z1_h, q1_h_1_0, r1_h_1_0, z1_h_1]
  have r2_h_1_0 : w2.frozen? ⟨w.heap.size + 1, 0, none⟩ = false := by rw [kf2 _ _ (by first | assumption | (simp; done) | (simp; omega) | omega)]; simp [go_sem, q1_h_0, r1_h_0, q1_h_1, r1_h_1, q1_h_2, r1_h_2, z1_h, q1_h_1_0, r1_h_1_0, z1_h_1]
  have z2_h_1 : w.heap.size + 1 < w2.heap.size := kz2 _ (by first | assumption | (simp; done) | (simp; omega) | omega)
  clear kc2 kf2 kz2 ky2 kx2 kv2 ku2 hb2 q1_h_0 r1_h_0 q1_h_1 r1_h_1 q1_h_2 r1_h_2 z1_h q1_h_1_0 r1_h_1_0 z1_h_1
  (go_wp2_with fail; refine (isOf_impl _ _ _ _ _ _ _ _).mono ?_; rintro e w3 ⟨rfl, hb3⟩; rw [n2]; (have ha3 : Below w.heap.size w w3 := by (repeat (first | with_reducible exact Below.refl _ _ | with_reducible assumption | with_reducible refine balloc ?_ _ | with_reducible refine bdrew ?_ | with_reducible refine below_drewN ?_ _ | with_reducible refine bset ?_ ?_ _ | with_reducible exact Nat.le_refl _ | with_reducible refine bsize ?_ | (dsimp only; refine Nat.le_trans ?_ (Nat.le_add_right _ _)) | with_reducible refine Nat.le_trans ?_ (Nat.le_add_right _ _) | (with_reducible refine bstep ?_ (by assumption))))); obtain ⟨kc3, kf3, kz3, ky3, kx3, kv3, ku3⟩ := bcell hb3)
  have q3_h_0 : w3.cell? ⟨w.heap.size, 0, none⟩ = some (.int .i64 k) := by rw [kc3 _ _ (by first | assumption | (simp; done) | (simp; omega) | omega)]; simp [go_sem, q2_h_0, r2_h_0, q2_h_1, r2_h_1, q2_h_2, r2_h_2, z2_h, q2_h_1_0, r2_h_1_0, z2_h_1]
  have r3_h_0 : w3.frozen? ⟨w.heap.size, 0, none⟩ = false := by rw [kf3 _ _ (by first | assumption | (simp; done) | (simp; omega) | omega)]; simp [go_sem, q2_h_0, r2_h_0, q2_h_1, r2_h_1, q2_h_2, r2_h_2, z2_h, q2_h_1_0, r2_h_1_0, z2_h_1]
  have q3_h_1 : w3.cell? ⟨w.heap.size, 1, none⟩ = some (.int .i64 a) := by rw [kc3 _ _ (by first | assumption | (simp; done) | (simp; omega) | omega)]; simp [go_sem, q2_h_0, r2_h_0, q2_h_1, r2_h_1, q2_h_2, r2_h_2, z2_h, q2_h_1_0, r2_h_1_0, z2_h_1]
  have r3_h_1 : w3.frozen? ⟨w.heap.size, 1, none⟩ = false := by rw [kf3 _ _ (by first | assumption | (simp; done) | (simp; omega) | omega)]; simp [go_sem, q2_h_0, r2_h_0, q2_h_1, r2_h_1, q2_h_2, r2_h_2, z2_h, q2_h_1_0, r2_h_1_0, z2_h_1]
  have q3_h_2 : w3.cell? ⟨w.heap.size, 2, none⟩ = some (.int .i64 b) := by rw [kc3 _ _ (by first | assumption | (simp; done) | (simp; omega) | omega)]; simp [go_sem, q2_h_0, r2_h_0, q2_h_1, r2_h_1, q2_h_2, r2_h_2, z2_h, q2_h_1_0, r2_h_1_0, z2_h_1]
  have r3_h_2 : w3.frozen? ⟨w.heap.size, 2, none⟩ = false := by rw [kf3 _ _ (by first | assumption | (simp; done) | (simp; omega) | omega)]; simp [go_sem, q2_h_0, r2_h_0, q2_h_1, r2_h_1, q2_h_2, r2_h_2, z2_h, q2_h_1_0, r2_h_1_0, z2_h_1]
  have z3_h : w.heap.size < w3.heap.size := kz3 _ (by first | assumption | (simp; done) | (simp; omega) | omega)
  have q3_h_1_0 : w3.cell? ⟨w.heap.size + 1, 0, none⟩ = some (.int .i64 m) := by rw [kc3 _ _ (by first | assumption | (simp; done) | (simp; omega) | omega)]; simp [go_sem, q2_h_0, r2_h_0, q2_h_1, r2_h_1, q2_h_2, r2_h_2, z2_h, q2_h_1_0, r2_h_1_0, z2_h_1]
  have r3_h_1_0 : w3.frozen? ⟨w.heap.size + 1, 0, none⟩ = false := by rw [kf3 _ _ (by first | assumption | (simp; done) | (simp; omega) | omega)]; simp [go_sem, q2_h_0, r2_h_0, q2_h_1, r2_h_1, q2_h_2, r2_h_2, z2_h, q2_h_1_0, r2_h_1_0, z2_h_1]
  have z3_h_1 : w.heap.size + 1 < w3.heap.size := kz3 _ (by first | assumption | (simp; done) | (simp; omega) | omega)
  clear kc3 kf3 kz3 ky3 kx3 kv3 ku3 hb3 q2_h_0 r2_h_0 q2_h_1 r2_h_1 q2_h_2 r2_h_2 z2_h q2_h_1_0 r2_h_1_0 z2_h_1
  (go_wp2_with fail; refine (isOf_impl _ _ _ _ _ _ _ _).mono ?_; rintro e w4 ⟨rfl, hb4⟩; rw [n3]; (have ha4 : Below w.heap.size w w4 := by (repeat (first | with_reducible exact Below.refl _ _ | with_reducible assumption | with_reducible refine balloc ?_ _ | with_reducible refine bdrew ?_ | with_reducible refine below_drewN ?_ _ | with_reducible refine bset ?_ ?_ _ | with_reducible exact Nat.le_refl _ | with_reducible refine bsize ?_ | (dsimp only; refine Nat.le_trans ?_ (Nat.le_add_right _ _)) | with_reducible refine Nat.le_trans ?_ (Nat.le_add_right _ _) | (with_reducible refine bstep ?_ (by assumption))))); obtain ⟨kc4, kf4, kz4, ky4, kx4, kv4, ku4⟩ := bcell hb4)
  have q4_h_0 : w4.cell? ⟨w.heap.size, 0, none⟩ = some (.int .i64 k) := by rw [kc4 _ _ (by first | assumption | (simp; done) | (simp; omega) | omega)]; simp [go_sem, q3_h_0, r3_h_0, q3_h_1, r3_h_1, q3_h_2, r3_h_2, z3_h, q3_h_1_0, r3_h_1_0, z3_h_1]
  have r4_h_0 : w4.frozen? ⟨w.heap.size, 0, none⟩ = false := by rw [kf4 _ _ (by first | assumption | (simp; done) | (simp; omega) | omega)]; simp [go_sem, q3_h_0, r3_h_0, q3_h_1, r3_h_1, q3_h_2, r3_h_2, z3_h, q3_h_1_0, r3_h_1_0, z3_h_1]
  have q4_h_1 : w4.cell? ⟨w.heap.size, 1, none⟩ = some (.int .i64 a) := by rw [kc4 _ _ (by first | assumption | (simp; done) | (simp; omega) | omega)]; simp [go_sem, q3_h_0, r3_h_0, q3_h_1, r3_h_1, q3_h_2, r3_h_2, z3_h, q3_h_1_0, r3_h_1_0, z3_h_1]
  have r4_h_1 : w4.frozen? ⟨w.heap.size, 1, none⟩ = false := by rw [kf4 _ _ (by first | assumption | (simp; done) | (simp; omega) | omega)]; simp [go_sem, q3_h_0, r3_h_0, q3_h_1, r3_h_1, q3_h_2, r3_h_2, z3_h, q3_h_1_0, r3_h_1_0, z3_h_1]
  have q4_h_2 : w4.cell? ⟨w.heap.size, 2, none⟩ = some (.int .i64 b) := by rw [kc4 _ _ (by first | assumption | (simp; done) | (simp; omega) | omega)]; simp [go_sem, q3_h_0, r3_h_0, q3_h_1, r3_h_1, q3_h_2, r3_h_2, z3_h, q3_h_1_0, r3_h_1_0, z3_h_1]
  have r4_h_2 : w4.frozen? ⟨w.heap.size, 2, none⟩ = false := by rw [kf4 _ _ (by first | assumption | (simp; done) | (simp; omega) | omega)]; simp [go_sem, q3_h_0, r3_h_0, q3_h_1, r3_h_1, q3_h_2, r3_h_2, z3_h, q3_h_1_0, r3_h_1_0, z3_h_1]
  have z4_h : w.heap.size < w4.heap.size := kz4 _ (by first | assumption | (simp; done) | (simp; omega) | omega)
  have q4_h_1_0 : w4.cell? ⟨w.heap.size + 1, 0, none⟩ = some (.int .i64 m) := by rw [kc4 _ _ (by first | assumption | (simp; done) | (simp; omega) | omega)]; simp [go_sem, q3_h_0, r3_h_0, q3_h_1, r3_h_1, q3_h_2, r3_h_2, z3_h, q3_h_1_0, r3_h_1_0, z3_h_1]
  have r4_h_1_0 : w4.frozen? ⟨w.heap.size + 1, 0, none⟩ = false := by rw [kf4 _ _ (by first | assumption | (simp; done) | (simp; omega) | omega)]; simp [go_sem, q3_h_0, r3_h_0, q3_h_1, r3_h_1, q3_h_2, r3_h_2, z3_h, q3_h_1_0, r3_h_1_0, z3_h_1]
  have z4_h_1 : w.heap.size + 1 < w4.heap.size := kz4 _ (by first | assumption | (simp; done) | (simp; omega) | omega)
  clear kc4 kf4 kz4 ky4 kx4 kv4 ku4 hb4 q3_h_0 r3_h_0 q3_h_1 r3_h_1 q3_h_2 r3_h_2 z3_h q3_h_1_0 r3_h_1_0 z3_h_1
  (go_wp2_with fail; refine (isOf_impl _ _ _ _ _ _ _ _).mono ?_; rintro e w5 ⟨rfl, hb5⟩; rw [n4]; (have ha5 : Below w.heap.size w w5 := by (repeat (first | with_reducible exact Below.refl _ _ | with_reducible assumption | with_reducible refine balloc ?_ _ | with_reducible refine bdrew ?_ | with_reducible refine below_drewN ?_ _ | with_reducible refine bset ?_ ?_ _ | with_reducible exact Nat.le_refl _ | with_reducible refine bsize ?_ | (dsimp only; refine Nat.le_trans ?_ (Nat.le_add_right _ _)) | with_reducible refine Nat.le_trans ?_ (Nat.le_add_right _ _) | (with_reducible refine bstep ?_ (by assumption))))); obtain ⟨kc5, kf5, kz5, ky5, kx5, kv5, ku5⟩ := bcell hb5)
  have q5_h_0 : w5.cell? ⟨w.heap.size, 0, none⟩ = some (.int .i64 k) := by rw [kc5 _ _ (by first | assumption | (simp; done) | (simp; omega) | omega)]; simp [go_sem, q4_h_0, r4_h_0, q4_h_1, r4_h_1, q4_h_2, r4_h_2, z4_h, q4_h_1_0, r4_h_1_0, z4_h_1]
  have r5_h_0 : w5.frozen? ⟨w.heap.size, 0, none⟩ = false := by rw [kf5 _ _ (by first | assumption | (simp; done) | (simp; omega) | omega)]; simp [go_sem, q4_h_0, r4_h_0, q4_h_1, r4_h_1, q4_h_2, r4_h_2, z4_h, q4_h_1_0, r4_h_1_0, z4_h_1]
  have q5_h_1 : w5.cell? ⟨w.heap.size, 1, none⟩ = some (.int .i64 a) := by rw [kc5 _ _ (by first | assumption | (simp; done) | (simp; omega) | omega)]; simp [go_sem, q4_h_0, r4_h_0, q4_h_1, r4_h_1, q4_h_2, r4_h_2, z4_h, q4_h_1_0, r4_h_1_0, z4_h_1]
  have r5_h_1 : w5.frozen? ⟨w.heap.size, 1, none⟩ = false := by rw [kf5 _ _ (by first | assumption | (simp; done) | (simp; omega) | omega)]; simp [go_sem, q4_h_0, r4_h_0, q4_h_1, r4_h_1, q4_h_2, r4_h_2, z4_h, q4_h_1_0, r4_h_1_0, z4_h_1]
  have q5_h_2 : w5.cell? ⟨w.heap.size, 2, none⟩ = some (.int .i64 b) := by rw [kc5 _ _ (by first | assumption | (simp; done) | (simp; omega) | omega)]; simp [go_sem, q4_h_0, r4_h_0, q4_h_1, r4_h_1, q4_h_2, r4_h_2, z4_h, q4_h_1_0, r4_h_1_0, z4_h_1]
  have r5_h_2 : w5.frozen? ⟨w.heap.size, 2, none⟩ = false := by rw [kf5 _ _ (by first | assumption | (simp; done) | (simp; omega) | omega)]; simp [go_sem, q4_h_0, r4_h_0, q4_h_1, r4_h_1, q4_h_2, r4_h_2, z4_h, q4_h_1_0, r4_h_1_0, z4_h_1]
  have z5_h : w.heap.size < w5.heap.size := kz5 _ (by first | assumption | (simp; done) | (simp; omega) | omega)
  have q5_h_1_0 : w5.cell? ⟨w.heap.size + 1, 0, none⟩ = some (.int .i64 m) := by rw [kc5 _ _ (by first | assumption | (simp; done) | (simp; omega) | omega)]; simp [go_sem, q4_h_0, r4_h_0, q4_h_1, r4_h_1, q4_h_2, r4_h_2, z4_h, q4_h_1_0, r4_h_1_0, z4_h_1]
  have r5_h_1_0 : w5.frozen? ⟨w.heap.size + 1, 0, none⟩ = false := by rw [kf5 _ _ (by first | assumption | (simp; done) | (simp; omega) | omega)]; simp [go_sem, q4_h_0, r4_h_0, q4_h_1, r4_h_1, q4_h_2, r4_h_2, z4_h, q4_h_1_0, r4_h_1_0, z4_h_1]
  have z5_h_1 : w.heap.size + 1 < w5.heap.size := kz5 _ (by first | assumption | (simp; done) | (simp; omega) | omega)
  clear kc5 kf5 kz5 ky5 kx5 kv5 ku5 hb5 q4_h_0 r4_h_0 q4_h_1 r4_h_1 q4_h_2 r4_h_2 z4_h q4_h_1_0 r4_h_1_0 z4_h_1
  (go_wp2_with fail; refine (isOf_impl _ _ _ _ _ _ _ _).mono ?_; rintro e w6 ⟨rfl, hb6⟩; rw [n5]; (have ha6 : Below w.heap.size w w6 := by (repeat (first | with_reducible exact Below.refl _ _ | with_reducible assumption | with_reducible refine balloc ?_ _ | with_reducible refine bdrew ?_ | with_reducible refine below_drewN ?_ _ | with_reducible refine bset ?_ ?_ _ | with_reducible exact Nat.le_refl _ | with_reducible refine bsize ?_ | (dsimp only; refine Nat.le_trans ?_ (Nat.le_add_right _ _)) | with_reducible refine Nat.le_trans ?_ (Nat.le_add_right _ _) | (with_reducible refine bstep ?_ (by assumption))))); obtain ⟨kc6, kf6, kz6, ky6, kx6, kv6, ku6⟩ := bcell hb6)
  have q6_h_0 : w6.cell? ⟨w.heap.size, 0, none⟩ = some (.int .i64 k) := by rw [kc6 _ _ (by first | assumption | (simp; done) | (simp; omega) | omega)]; simp [go_sem, q5_h_0, r5_h_0, q5_h_1, r5_h_1, q5_h_2, r5_h_2, z5_h, q5_h_1_0, r5_h_1_0, z5_h_1]
  have r6_h_0 : w6.frozen? ⟨w.heap.size, 0, none⟩ = false := by rw [kf6 _ _ (by first | assumption | (simp; done) | (simp; omega) | omega)]; simp [go_sem, q5_h_0, r5_h_0, q5_h_1, r5_h_1, q5_h_2, r5_h_2, z5_h, q5_h_1_0, r5_h_1_0, z5_h_1]
  have q6_h_1 : w6.cell? ⟨w.heap.size, 1, none⟩ = some (.int .i64 a) := by rw [kc6 _ _ (by first | assumption | (simp; done) | (simp; omega) | omega)]; simp [go_sem, q5_h_0, r5_h_0, q5_h_1, r5_h_1, q5_h_2, r5_h_2, z5_h, q5_h_1_0, r5_h_1_0, z5_h_1]
  have r6_h_1 : w6.frozen? ⟨w.heap.size, 1, none⟩ = false := by rw [kf6 _ _ (by first | assumption | (simp; done) | (simp; omega) | omega)]; simp [go_sem, q5_h_0, r5_h_0, q5_h_1, r5_h_1, q5_h_2, r5_h_2, z5_h, q5_h_1_0, r5_h_1_0, z5_h_1]
  have q6_h_2 : w6.cell? ⟨w.heap.size, 2, none⟩ = some (.int .i64 b) := by rw [kc6 _ _ (by first | assumption | (simp; done) | (simp; omega) | omega)]; simp [go_sem, q5_h_0, r5_h_0, q5_h_1, r5_h_1, q5_h_2, r5_h_2, z5_h, q5_h_1_0, r5_h_1_0, z5_h_1]
  have r6_h_2 : w6.frozen? ⟨w.heap.size, 2, none⟩ = false := by rw [kf6 _ _ (by first | assumption | (simp; done) | (simp; omega) | omega)]; simp [go_sem, q5_h_0, r5_h_0, q5_h_1, r5_h_1, q5_h_2, r5_h_2, z5_h, q5_h_1_0, r5_h_1_0, z5_h_1]
  have z6_h : w.heap.size < w6.heap.size := kz6 _ (by first | assumption | (simp; done) | (simp; omega) | omega)
  have q6_h_1_0 : w6.cell? ⟨w.heap.size + 1, 0, none⟩ = some (.int .i64 m) := by rw [kc6 _ _ (by first | assumption | (simp; done) | (simp; omega) | omega)]; simp [go_sem, q5_h_0, r5_h_0, q5_h_1, r5_h_1, q5_h_2, r5_h_2, z5_h, q5_h_1_0, r5_h_1_0, z5_h_1]
  have r6_h_1_0 : w6.frozen? ⟨w.heap.size + 1, 0, none⟩ = false := by rw [kf6 _ _ (by first | assumption | (simp; done) | (simp; omega) | omega)]; simp [go_sem, q5_h_0, r5_h_0, q5_h_1, r5_h_1, q5_h_2, r5_h_2, z5_h, q5_h_1_0, r5_h_1_0, z5_h_1]
  have z6_h_1 : w.heap.size + 1 < w6.heap.size := kz6 _ (by first | assumption | (simp; done) | (simp; omega) | omega)
  clear kc6 kf6 kz6 ky6 kx6 kv6 ku6 hb6 q5_h_0 r5_h_0 q5_h_1 r5_h_1 q5_h_2 r5_h_2 z5_h q5_h_1_0 r5_h_1_0 z5_h_1
  go_wp2
  exact ⟨rfl, rfl, by (repeat (first | with_reducible exact Below.refl _ _ | with_reducible assumption | with_reducible refine balloc ?_ _ | with_reducible refine bdrew ?_ | with_reducible refine below_drewN ?_ _ | with_reducible refine bset ?_ ?_ _ | with_reducible exact Nat.le_refl _ | with_reducible refine bsize ?_ | (dsimp only; refine Nat.le_trans ?_ (Nat.le_add_right _ _)) | with_reducible refine Nat.le_trans ?_ (Nat.le_add_right _ _) | (with_reducible refine bstep ?_ (by assumption))))⟩
/-- The trial of a clue. -/
theorem tr_yes (m k a b : Int) (hm : 1 ≤ m ∧ m ≤ 10) (h : clB m k a b = true) (w : World) :
    Calls Try.prog 36 #[.agg #[.int .i64 k, .int .i64 a, .int .i64 b], .int .i64 m] w fun e w' => ∃ v, e = .returned v ∧ TrialAt m ⟨k, a, b⟩ v w' ∧ Below w.heap.size w w' := by
  simp only [clB, Bool.or_eq_true] at h
  rcases h with ((((h | h) | h) | h) | h) | h
  · obtain rfl := ofB_k h; exact tr_yes_0 m a b hm h w
  · obtain rfl := ofB_k h; exact tr_yes_1 m a b hm h w
  · obtain rfl := ofB_k h; exact tr_yes_2 m a b hm h w
  · obtain rfl := ofB_k h; exact tr_yes_3 m a b hm h w
  · obtain rfl := ofB_k h; exact tr_yes_4 m a b hm h w
  · obtain rfl := ofB_k h; exact tr_yes_5 m a b hm h w

end Go.Proofs.Ythhmmdapoaeeiaa
