/- Several texts in one, in their order. -/
import Derived.Test.YtiafmojmanhdoaaPkS9b
import Derived.Test.YtiafmojmanhdoaaBlk
import Derived.Deep.RegionHeld3
import Derived.Deep.DeepCutAuto
import Derived.Test.YtiafmojmanhdoaaAns2
import Derived.Test.YtiafmojmanhdoaaBase
import Derived.Lib.SliceRun
import Derived.ArgAppend
import Derived.Tactics
import Derived.Tactics2
import Derived.Defers
import Derived.Recover
import Derived.Laws.Pointers
import Derived.Test.YtiafmojmanhdoaaApp
/- The trial of a clue, of the program. -/
namespace Go.Proofs.Ytiafmojmanhdoaa
open Go.ChangeShapes Go.WideShapes Go.ChangeAt Go.RowKit Go.Joins
set_option maxRecDepth 100000
set_option linter.unusedVariables false
set_option linter.unusedSimpArgs false


/-- The closure that tries a clue of a kind. -/
def trV (k : Int) (g gm : Nat) : Value :=
  if k = 0 then .func (.func 82) #[] #[.pointer (some ⟨g, 0, none⟩)] else if k = 1 then .func (.func 84) #[] #[.pointer (some ⟨g, 0, none⟩)] else if k = 2 then .func (.func 85) #[] #[.pointer (some ⟨g, 0, none⟩)] else if k = 3 then .func (.func 86) #[] #[.pointer (some ⟨gm, 0, none⟩), .pointer (some ⟨g, 0, none⟩)] else if k = 4 then .func (.func 88) #[] #[.pointer (some ⟨gm, 0, none⟩), .pointer (some ⟨g, 0, none⟩)] else .func (.func 89) #[] #[.pointer (some ⟨gm, 0, none⟩), .pointer (some ⟨g, 0, none⟩)]
/-- A trial: its clue and its miles lie in the boxes that it took. -/
def TrialAt (m : Int) (p : ClueV) (v : Value) (W : World) : Prop :=
  ∃ g gm : Nat, Blk g #[.int .i64 p.k, .int .i64 p.a, .int .i64 p.b] 27 W ∧ Blk gm #[.int .i64 m] 3 W ∧ v = trV p.k g gm
theorem TrialAt.later {m : Int} {p : ClueV} {v : Value} {W W' : World} (h : TrialAt m p v W) (hb : Below W.heap.size W W') : TrialAt m p v W' := by
  obtain ⟨g, gm, h1, h2, e⟩ := h
  exact ⟨g, gm, h1.later hb, h2.later hb, e⟩
theorem TrialAt.grown {m : Int} {p : ClueV} {u : Value} {W W' : World} (h : TrialAt m p u W) {base n : Nat} {v : Value} {xs : List Value} (ho : W.ownsRow base 64 1 v n xs) (hg : W.grownBy W' v.ownBlock) : TrialAt m p u W' := by
  obtain ⟨g, gm, h1, h2, e⟩ := h
  exact ⟨g, gm, h1.grown hg (h1.ne_row ho (by decide)), h2.grown hg (h2.ne_row ho (by decide)), e⟩
theorem TrialAt.shape {m : Int} {p : ClueV} {v : Value} {W : World} (h : TrialAt m p v W) : ∃ f cs, v = .func (.func f) #[] cs := by
  obtain ⟨g, gm, _, _, rfl⟩ := h
  unfold trV
  repeat' split
  all_goals exact ⟨_, _, rfl⟩
set_option maxHeartbeats 3200000 in
theorem tr_yes_0 (m a b : Int) (hm : 1 ≤ m ∧ m ≤ 10) (h : ofB 0 a b 0 1 (m - 1) 0 = true) (w : World) :
    Calls Try.prog 55 #[.agg #[.int .i64 0, .int .i64 a, .int .i64 b], .int .i64 m] w fun e w' => ∃ v, e = .returned v ∧ TrialAt m ⟨0, a, b⟩ v w' ∧ Below w.heap.size w w' := by
  have hmf : ∀ (fn : Fn) (first cap : Array Value) (w : World), (Instr.makeFunc fn first cap).run Try.prog w = .ok (.func fn first cap) w := fun _ _ _ _ => rfl
  go_enter Try.func55, Try.ntmps55
  (go_wp2_with fail; refine (isOf_impl _ _ _ _ _ _ _ _).mono ?_; rintro e w1 ⟨rfl, hb1⟩; rw [h]; (have ha1 : Below w.heap.size w w1 := by (repeat (first | with_reducible exact Below.refl _ _ | with_reducible assumption | with_reducible refine balloc ?_ _ | with_reducible refine bdrew ?_ | with_reducible refine below_drewN ?_ _ | with_reducible refine bset ?_ ?_ _ | with_reducible exact Nat.le_refl _ | with_reducible refine bsize ?_ | (dsimp only; refine Nat.le_trans ?_ (Nat.le_add_right _ _)) | with_reducible refine Nat.le_trans ?_ (Nat.le_add_right _ _) | (with_reducible refine bstep ?_ (by assumption))))); obtain ⟨kc1, kf1, kz1, ky1, kx1, kv1, ku1⟩ := bcell hb1)
  have fA1 : Blk w.heap.size #[.int .i64 0, .int .i64 a, .int .i64 b] 27 w1 := ((Blk.new w _ _).alloc _).later hb1
  have fB1 : Blk (w.heap.size + 1) #[.int .i64 m] 3 w1 := Blk.later (by have h := Blk.new (w.alloc (.cells #[.int .i64 0, .int .i64 a, .int .i64 b] 27)) #[.int .i64 m] 3; rw [World.size_alloc] at h; exact h) hb1
  have q1_h_0 : w1.cell? ⟨w.heap.size, 0, none⟩ = some (.int .i64 0) := by rw [kc1 _ _ (by first | assumption | (simp; done) | (simp; omega) | omega)]; simp [go_sem]
  have r1_h_0 : w1.frozen? ⟨w.heap.size, 0, none⟩ = false := by rw [kf1 _ _ (by first | assumption | (simp; done) | (simp; omega) | omega)]; simp [go_sem]
  have q1_h_1 : w1.cell? ⟨w.heap.size, 1, none⟩ = some (.int .i64 a) := by rw [kc1 _ _ (by first | assumption | (simp; done) | (simp; omega) | omega)]; simp [go_sem]
  have r1_h_1 : w1.frozen? ⟨w.heap.size, 1, none⟩ = false := by rw [kf1 _ _ (by first | assumption | (simp; done) | (simp; omega) | omega)]; simp [go_sem]
  have q1_h_2 : w1.cell? ⟨w.heap.size, 2, none⟩ = some (.int .i64 b) := by rw [kc1 _ _ (by first | assumption | (simp; done) | (simp; omega) | omega)]; simp [go_sem]
  have r1_h_2 : w1.frozen? ⟨w.heap.size, 2, none⟩ = false := by rw [kf1 _ _ (by first | assumption | (simp; done) | (simp; omega) | omega)]; simp [go_sem]
  have z1_h : w.heap.size < w1.heap.size := kz1 _ (by first | assumption | (simp; done) | (simp; omega) | omega)
  have q1_h_1_0 : w1.cell? ⟨w.heap.size + 1, 0, none⟩ = some (.int .i64 m) := by rw [kc1 _ _ (by first | assumption | (simp; done) | (simp; omega) | omega)]; simp [go_sem]
  have r1_h_1_0 : w1.frozen? ⟨w.heap.size + 1, 0, none⟩ = false := by rw [kf1 _ _ (by first | assumption | (simp; done) | (simp; omega) | omega)]; simp [go_sem]
  have z1_h_1 : w.heap.size + 1 < w1.heap.size := kz1 _ (by first | assumption | (simp; done) | (simp; omega) | omega)
  clear kc1 kf1 kz1 ky1 kx1 kv1 ku1 hb1
  go_wp2
  go_ret
  exact ⟨_, rfl, ⟨w.heap.size, w.heap.size + 1, fA1, fB1, rfl⟩, by (repeat (first | with_reducible exact Below.refl _ _ | with_reducible assumption | with_reducible refine balloc ?_ _ | with_reducible refine bdrew ?_ | with_reducible refine below_drewN ?_ _ | with_reducible refine bset ?_ ?_ _ | with_reducible exact Nat.le_refl _ | with_reducible refine bsize ?_ | (dsimp only; refine Nat.le_trans ?_ (Nat.le_add_right _ _)) | with_reducible refine Nat.le_trans ?_ (Nat.le_add_right _ _) | (with_reducible refine bstep ?_ (by assumption))))⟩
set_option maxHeartbeats 3200000 in
theorem tr_yes_1 (m a b : Int) (hm : 1 ≤ m ∧ m ≤ 10) (h : ofB 1 a b 1 1 (m - 1) 0 = true) (w : World) :
    Calls Try.prog 55 #[.agg #[.int .i64 1, .int .i64 a, .int .i64 b], .int .i64 m] w fun e w' => ∃ v, e = .returned v ∧ TrialAt m ⟨1, a, b⟩ v w' ∧ Below w.heap.size w w' := by
  have hmf : ∀ (fn : Fn) (first cap : Array Value) (w : World), (Instr.makeFunc fn first cap).run Try.prog w = .ok (.func fn first cap) w := fun _ _ _ _ => rfl
  have n0 : ofB 1 a b 0 1 (m - 1) 0 = false := ofB_ne (by decide)
  go_enter Try.func55, Try.ntmps55
  (go_wp2_with fail; refine (isOf_impl _ _ _ _ _ _ _ _).mono ?_; rintro e w1 ⟨rfl, hb1⟩; rw [n0]; (have ha1 : Below w.heap.size w w1 := by (repeat (first | with_reducible exact Below.refl _ _ | with_reducible assumption | with_reducible refine balloc ?_ _ | with_reducible refine bdrew ?_ | with_reducible refine below_drewN ?_ _ | with_reducible refine bset ?_ ?_ _ | with_reducible exact Nat.le_refl _ | with_reducible refine bsize ?_ | (dsimp only; refine Nat.le_trans ?_ (Nat.le_add_right _ _)) | with_reducible refine Nat.le_trans ?_ (Nat.le_add_right _ _) | (with_reducible refine bstep ?_ (by assumption))))); obtain ⟨kc1, kf1, kz1, ky1, kx1, kv1, ku1⟩ := bcell hb1)
  have fA1 : Blk w.heap.size #[.int .i64 1, .int .i64 a, .int .i64 b] 27 w1 := ((Blk.new w _ _).alloc _).later hb1
  have fB1 : Blk (w.heap.size + 1) #[.int .i64 m] 3 w1 := Blk.later (by have h := Blk.new (w.alloc (.cells #[.int .i64 1, .int .i64 a, .int .i64 b] 27)) #[.int .i64 m] 3; rw [World.size_alloc] at h; exact h) hb1
  have q1_h_0 : w1.cell? ⟨w.heap.size, 0, none⟩ = some (.int .i64 1) := by rw [kc1 _ _ (by first | assumption | (simp; done) | (simp; omega) | omega)]; simp [go_sem]
  have r1_h_0 : w1.frozen? ⟨w.heap.size, 0, none⟩ = false := by rw [kf1 _ _ (by first | assumption | (simp; done) | (simp; omega) | omega)]; simp [go_sem]
  have q1_h_1 : w1.cell? ⟨w.heap.size, 1, none⟩ = some (.int .i64 a) := by rw [kc1 _ _ (by first | assumption | (simp; done) | (simp; omega) | omega)]; simp [go_sem]
  have r1_h_1 : w1.frozen? ⟨w.heap.size, 1, none⟩ = false := by rw [kf1 _ _ (by first | assumption | (simp; done) | (simp; omega) | omega)]; simp [go_sem]
  have q1_h_2 : w1.cell? ⟨w.heap.size, 2, none⟩ = some (.int .i64 b) := by rw [kc1 _ _ (by first | assumption | (simp; done) | (simp; omega) | omega)]; simp [go_sem]
  have r1_h_2 : w1.frozen? ⟨w.heap.size, 2, none⟩ = false := by rw [kf1 _ _ (by first | assumption | (simp; done) | (simp; omega) | omega)]; simp [go_sem]
  have z1_h : w.heap.size < w1.heap.size := kz1 _ (by first | assumption | (simp; done) | (simp; omega) | omega)
  have q1_h_1_0 : w1.cell? ⟨w.heap.size + 1, 0, none⟩ = some (.int .i64 m) := by rw [kc1 _ _ (by first | assumption | (simp; done) | (simp; omega) | omega)]; simp [go_sem]
  have r1_h_1_0 : w1.frozen? ⟨w.heap.size + 1, 0, none⟩ = false := by rw [kf1 _ _ (by first | assumption | (simp; done) | (simp; omega) | omega)]; simp [go_sem]
  have z1_h_1 : w.heap.size + 1 < w1.heap.size := kz1 _ (by first | assumption | (simp; done) | (simp; omega) | omega)
  clear kc1 kf1 kz1 ky1 kx1 kv1 ku1 hb1
  (go_wp2_with fail; refine (isOf_impl _ _ _ _ _ _ _ _).mono ?_; rintro e w2 ⟨rfl, hb2⟩; rw [h]; (have ha2 : Below w.heap.size w w2 := by (repeat (first | with_reducible exact Below.refl _ _ | with_reducible assumption | with_reducible refine balloc ?_ _ | with_reducible refine bdrew ?_ | with_reducible refine below_drewN ?_ _ | with_reducible refine bset ?_ ?_ _ | with_reducible exact Nat.le_refl _ | with_reducible refine bsize ?_ | (dsimp only; refine Nat.le_trans ?_ (Nat.le_add_right _ _)) | with_reducible refine Nat.le_trans ?_ (Nat.le_add_right _ _) | (with_reducible refine bstep ?_ (by assumption))))); obtain ⟨kc2, kf2, kz2, ky2, kx2, kv2, ku2⟩ := bcell hb2)
  have fA2 := fA1.later hb2
  have fB2 := fB1.later hb2
  clear fA1 fB1
  have q2_h_0 : w2.cell? ⟨w.heap.size, 0, none⟩ = some (.int .i64 1) := by rw [kc2 _ _ (by first | assumption | (simp; done) | (simp; omega) | omega)]; simp [go_sem, q1_h_0, r1_h_0, q1_h_1, r1_h_1, q1_h_2, r1_h_2, z1_h, q1_h_1_0, r1_h_1_0, z1_h_1]
  have r2_h_0 : w2.frozen? ⟨w.heap.size, 0, none⟩ = false := by rw [kf2 _ _ (by first | assumption | (simp; done) | (simp; omega) | omega)]; simp [go_sem, q1_h_0, r1_h_0, q1_h_1, r1_h_1, q1_h_2, r1_h_2, z1_h, q1_h_1_0, r1_h_1_0, z1_h_1]
  have q2_h_1 : w2.cell? ⟨w.heap.size, 1, none⟩ = some (.int .i64 a) := by rw [kc2 _ _ (by first | assumption | (simp; done) | (simp; omega) | omega)]; simp [go_sem, q1_h_0, r1_h_0, q1_h_1, r1_h_1, q1_h_2, r1_h_2, z1_h, q1_h_1_0, r1_h_1_0, z1_h_1]
  have r2_h_1 : w2.frozen? ⟨w.heap.size, 1, none⟩ = false := by rw [kf2 _ _ (by first | assumption | (simp; done) | (simp; omega) | omega)]; simp [go_sem, q1_h_0, r1_h_0, q1_h_1, r1_h_1, q1_h_2, r1_h_2, z1_h, q1_h_1_0, r1_h_1_0, z1_h_1]
  have q2_h_2 : w2.cell? ⟨w.heap.size, 2, none⟩ = some (.int .i64 b) := by rw [kc2 _ _ (by first | assumption | (simp; done) | (simp; omega) | omega)]; simp [go_sem, q1_h_0, r1_h_0, q1_h_1, r1_h_1, q1_h_2, r1_h_2, z1_h, q1_h_1_0, r1_h_1_0, z1_h_1]
  have r2_h_2 : w2.frozen? ⟨w.heap.size, 2, none⟩ = false := by rw [kf2 _ _ (by first | assumption | (simp; done) | (simp; omega) | omega)]; simp [go_sem, q1_h_0, r1_h_0, q1_h_1, r1_h_1, q1_h_2, r1_h_2, z1_h, q1_h_1_0, r1_h_1_0, z1_h_1]
  have z2_h : w.heap.size < w2.heap.size := kz2 _ (by first | assumption | (simp; done) | (simp; omega) | omega)
  have q2_h_1_0 : w2.cell? ⟨w.heap.size + 1, 0, none⟩ = some (.int .i64 m) := by rw [kc2 _ _ (by first | assumption | (simp; done) | (simp; omega) | omega)]; simp [go_sem, q1_h_0, r1_h_0, q1_h_1, r1_h_1, q1_h_2, r1_h_2, z1_h, q1_h_1_0, r1_h_1_0, z1_h_1]
  have r2_h_1_0 : w2.frozen? ⟨w.heap.size + 1, 0, none⟩ = false := by rw [kf2 _ _ (by first | assumption | (simp; done) | (simp; omega) | omega)]; simp [go_sem, q1_h_0, r1_h_0, q1_h_1, r1_h_1, q1_h_2, r1_h_2, z1_h, q1_h_1_0, r1_h_1_0, z1_h_1]
  have z2_h_1 : w.heap.size + 1 < w2.heap.size := kz2 _ (by first | assumption | (simp; done) | (simp; omega) | omega)
  clear kc2 kf2 kz2 ky2 kx2 kv2 ku2 hb2 q1_h_0 r1_h_0 q1_h_1 r1_h_1 q1_h_2 r1_h_2 z1_h q1_h_1_0 r1_h_1_0 z1_h_1
  go_wp2
  go_ret
  exact ⟨_, rfl, ⟨w.heap.size, w.heap.size + 1, fA2, fB2, rfl⟩, by (repeat (first | with_reducible exact Below.refl _ _ | with_reducible assumption | with_reducible refine balloc ?_ _ | with_reducible refine bdrew ?_ | with_reducible refine below_drewN ?_ _ | with_reducible refine bset ?_ ?_ _ | with_reducible exact Nat.le_refl _ | with_reducible refine bsize ?_ | (dsimp only; refine Nat.le_trans ?_ (Nat.le_add_right _ _)) | with_reducible refine Nat.le_trans ?_ (Nat.le_add_right _ _) | (with_reducible refine bstep ?_ (by assumption))))⟩
set_option maxHeartbeats 3200000 in
theorem tr_yes_2 (m a b : Int) (hm : 1 ≤ m ∧ m ≤ 10) (h : ofB 2 a b 2 0 (m - 1) 0 = true) (w : World) :
    Calls Try.prog 55 #[.agg #[.int .i64 2, .int .i64 a, .int .i64 b], .int .i64 m] w fun e w' => ∃ v, e = .returned v ∧ TrialAt m ⟨2, a, b⟩ v w' ∧ Below w.heap.size w w' := by
  have hmf : ∀ (fn : Fn) (first cap : Array Value) (w : World), (Instr.makeFunc fn first cap).run Try.prog w = .ok (.func fn first cap) w := fun _ _ _ _ => rfl
  have n0 : ofB 2 a b 0 1 (m - 1) 0 = false := ofB_ne (by decide)
  have n1 : ofB 2 a b 1 1 (m - 1) 0 = false := ofB_ne (by decide)
  go_enter Try.func55, Try.ntmps55
  (go_wp2_with fail; refine (isOf_impl _ _ _ _ _ _ _ _).mono ?_; rintro e w1 ⟨rfl, hb1⟩; rw [n0]; (have ha1 : Below w.heap.size w w1 := by (repeat (first | with_reducible exact Below.refl _ _ | with_reducible assumption | with_reducible refine balloc ?_ _ | with_reducible refine bdrew ?_ | with_reducible refine below_drewN ?_ _ | with_reducible refine bset ?_ ?_ _ | with_reducible exact Nat.le_refl _ | with_reducible refine bsize ?_ | (dsimp only; refine Nat.le_trans ?_ (Nat.le_add_right _ _)) | with_reducible refine Nat.le_trans ?_ (Nat.le_add_right _ _) | (with_reducible refine bstep ?_ (by assumption))))); obtain ⟨kc1, kf1, kz1, ky1, kx1, kv1, ku1⟩ := bcell hb1)
  have fA1 : Blk w.heap.size #[.int .i64 2, .int .i64 a, .int .i64 b] 27 w1 := ((Blk.new w _ _).alloc _).later hb1
  have fB1 : Blk (w.heap.size + 1) #[.int .i64 m] 3 w1 := Blk.later (by have h := Blk.new (w.alloc (.cells #[.int .i64 2, .int .i64 a, .int .i64 b] 27)) #[.int .i64 m] 3; rw [World.size_alloc] at h; exact h) hb1
  have q1_h_0 : w1.cell? ⟨w.heap.size, 0, none⟩ = some (.int .i64 2) := by rw [kc1 _ _ (by first | assumption | (simp; done) | (simp; omega) | omega)]; simp [go_sem]
  have r1_h_0 : w1.frozen? ⟨w.heap.size, 0, none⟩ = false := by rw [kf1 _ _ (by first | assumption | (simp; done) | (simp; omega) | omega)]; simp [go_sem]
  have q1_h_1 : w1.cell? ⟨w.heap.size, 1, none⟩ = some (.int .i64 a) := by rw [kc1 _ _ (by first | assumption | (simp; done) | (simp; omega) | omega)]; simp [go_sem]
  have r1_h_1 : w1.frozen? ⟨w.heap.size, 1, none⟩ = false := by rw [kf1 _ _ (by first | assumption | (simp; done) | (simp; omega) | omega)]; simp [go_sem]
  have q1_h_2 : w1.cell? ⟨w.heap.size, 2, none⟩ = some (.int .i64 b) := by rw [kc1 _ _ (by first | assumption | (simp; done) | (simp; omega) | omega)]; simp [go_sem]
  have r1_h_2 : w1.frozen? ⟨w.heap.size, 2, none⟩ = false := by rw [kf1 _ _ (by first | assumption | (simp; done) | (simp; omega) | omega)]; simp [go_sem]
  have z1_h : w.heap.size < w1.heap.size := kz1 _ (by first | assumption | (simp; done) | (simp; omega) | omega)
  have q1_h_1_0 : w1.cell? ⟨w.heap.size + 1, 0, none⟩ = some (.int .i64 m) := by rw [kc1 _ _ (by first | assumption | (simp; done) | (simp; omega) | omega)]; simp [go_sem]
  have r1_h_1_0 : w1.frozen? ⟨w.heap.size + 1, 0, none⟩ = false := by rw [kf1 _ _ (by first | assumption | (simp; done) | (simp; omega) | omega)]; simp [go_sem]
  have z1_h_1 : w.heap.size + 1 < w1.heap.size := kz1 _ (by first | assumption | (simp; done) | (simp; omega) | omega)
  clear kc1 kf1 kz1 ky1 kx1 kv1 ku1 hb1
  (go_wp2_with fail; refine (isOf_impl _ _ _ _ _ _ _ _).mono ?_; rintro e w2 ⟨rfl, hb2⟩; rw [n1]; (have ha2 : Below w.heap.size w w2 := by (repeat (first | with_reducible exact Below.refl _ _ | with_reducible assumption | with_reducible refine balloc ?_ _ | with_reducible refine bdrew ?_ | with_reducible refine below_drewN ?_ _ | with_reducible refine bset ?_ ?_ _ | with_reducible exact Nat.le_refl _ | with_reducible refine bsize ?_ | (dsimp only; refine Nat.le_trans ?_ (Nat.le_add_right _ _)) | with_reducible refine Nat.le_trans ?_ (Nat.le_add_right _ _) | (with_reducible refine bstep ?_ (by assumption))))); obtain ⟨kc2, kf2, kz2, ky2, kx2, kv2, ku2⟩ := bcell hb2)
  have fA2 := fA1.later hb2
  have fB2 := fB1.later hb2
  clear fA1 fB1
  have q2_h_0 : w2.cell? ⟨w.heap.size, 0, none⟩ = some (.int .i64 2) := by rw [kc2 _ _ (by first | assumption | (simp; done) | (simp; omega) | omega)]; simp [go_sem, q1_h_0, r1_h_0, q1_h_1, r1_h_1, q1_h_2, r1_h_2, z1_h, q1_h_1_0, r1_h_1_0, z1_h_1]
  have r2_h_0 : w2.frozen? ⟨w.heap.size, 0, none⟩ = false := by rw [kf2 _ _ (by first | assumption | (simp; done) | (simp; omega) | omega)]; simp [go_sem, q1_h_0, r1_h_0, q1_h_1, r1_h_1, q1_h_2, r1_h_2, z1_h, q1_h_1_0, r1_h_1_0, z1_h_1]
  have q2_h_1 : w2.cell? ⟨w.heap.size, 1, none⟩ = some (.int .i64 a) := by rw [kc2 _ _ (by first | assumption | (simp; done) | (simp; omega) | omega)]; simp [go_sem, q1_h_0, r1_h_0, q1_h_1, r1_h_1, q1_h_2, r1_h_2, z1_h, q1_h_1_0, r1_h_1_0, z1_h_1]
  have r2_h_1 : w2.frozen? ⟨w.heap.size, 1, none⟩ = false := by rw [kf2 _ _ (by first | assumption | (simp; done) | (simp; omega) | omega)]; simp [go_sem, q1_h_0, r1_h_0, q1_h_1, r1_h_1, q1_h_2, r1_h_2, z1_h, q1_h_1_0, r1_h_1_0, z1_h_1]
  have q2_h_2 : w2.cell? ⟨w.heap.size, 2, none⟩ = some (.int .i64 b) := by rw [kc2 _ _ (by first | assumption | (simp; done) | (simp; omega) | omega)]; simp [go_sem, q1_h_0, r1_h_0, q1_h_1, r1_h_1, q1_h_2, r1_h_2, z1_h, q1_h_1_0, r1_h_1_0, z1_h_1]
  have r2_h_2 : w2.frozen? ⟨w.heap.size, 2, none⟩ = false := by rw [kf2 _ _ (by first | assumption | (simp; done) | (simp; omega) | omega)]; simp [go_sem, q1_h_0, r1_h_0, q1_h_1, r1_h_1, q1_h_2, r1_h_2, z1_h, q1_h_1_0, r1_h_1_0, z1_h_1]
  have z2_h : w.heap.size < w2.heap.size := kz2 _ (by first | assumption | (simp; done) | (simp; omega) | omega)
  have q2_h_1_0 : w2.cell? ⟨w.heap.size + 1, 0, none⟩ = some (.int .i64 m) := by rw [kc2 _ _ (by first | assumption | (simp; done) | (simp; omega) | omega)]; simp [go_sem, q1_h_0, r1_h_0, q1_h_1, r1_h_1, q1_h_2, r1_h_2, z1_h, q1_h_1_0, r1_h_1_0, z1_h_1]
  have r2_h_1_0 : w2.frozen? ⟨w.heap.size + 1, 0, none⟩ = false := by rw [kf2 _ _ (by first | assumption | (simp; done) | (simp; omega) | omega)]; simp [go_sem, q1_h_0, r1_h_0, q1_h_1, r1_h_1, q1_h_2, r1_h_2, z1_h, q1_h_1_0, r1_h_1_0, z1_h_1]
  have z2_h_1 : w.heap.size + 1 < w2.heap.size := kz2 _ (by first | assumption | (simp; done) | (simp; omega) | omega)
  clear kc2 kf2 kz2 ky2 kx2 kv2 ku2 hb2 q1_h_0 r1_h_0 q1_h_1 r1_h_1 q1_h_2 r1_h_2 z1_h q1_h_1_0 r1_h_1_0 z1_h_1
  (go_wp2_with fail; refine (isOf_impl _ _ _ _ _ _ _ _).mono ?_; rintro e w3 ⟨rfl, hb3⟩; rw [h]; (have ha3 : Below w.heap.size w w3 := by (repeat (first | with_reducible exact Below.refl _ _ | with_reducible assumption | with_reducible refine balloc ?_ _ | with_reducible refine bdrew ?_ | with_reducible refine below_drewN ?_ _ | with_reducible refine bset ?_ ?_ _ | with_reducible exact Nat.le_refl _ | with_reducible refine bsize ?_ | (dsimp only; refine Nat.le_trans ?_ (Nat.le_add_right _ _)) | with_reducible refine Nat.le_trans ?_ (Nat.le_add_right _ _) | (with_reducible refine bstep ?_ (by assumption))))); obtain ⟨kc3, kf3, kz3, ky3, kx3, kv3, ku3⟩ := bcell hb3)
  have fA3 := fA2.later hb3
  have fB3 := fB2.later hb3
  clear fA2 fB2
  have q3_h_0 : w3.cell? ⟨w.heap.size, 0, none⟩ = some (.int .i64 2) := by rw [kc3 _ _ (by first | assumption | (simp; done) | (simp; omega) | omega)]; simp [go_sem, q2_h_0, r2_h_0, q2_h_1, r2_h_1, q2_h_2, r2_h_2, z2_h, q2_h_1_0, r2_h_1_0, z2_h_1]
  have r3_h_0 : w3.frozen? ⟨w.heap.size, 0, none⟩ = false := by rw [kf3 _ _ (by first | assumption | (simp; done) | (simp; omega) | omega)]; simp [go_sem, q2_h_0, r2_h_0, q2_h_1, r2_h_1, q2_h_2, r2_h_2, z2_h, q2_h_1_0, r2_h_1_0, z2_h_1]
  have q3_h_1 : w3.cell? ⟨w.heap.size, 1, none⟩ = some (.int .i64 a) := by rw [kc3 _ _ (by first | assumption | (simp; done) | (simp; omega) | omega)]; simp [go_sem, q2_h_0, r2_h_0, q2_h_1, r2_h_1, q2_h_2, r2_h_2, z2_h, q2_h_1_0, r2_h_1_0, z2_h_1]
  have r3_h_1 : w3.frozen? ⟨w.heap.size, 1, none⟩ = false := by rw [kf3 _ _ (by first | assumption | (simp; done) | (simp; omega) | omega)]; simp [go_sem, q2_h_0, r2_h_0, q2_h_1, r2_h_1, q2_h_2, r2_h_2, z2_h, q2_h_1_0, r2_h_1_0, z2_h_1]
  have q3_h_2 : w3.cell? ⟨w.heap.size, 2, none⟩ = some (.int .i64 b) := by rw [kc3 _ _ (by first | assumption | (simp; done) | (simp; omega) | omega)]; simp [go_sem, q2_h_0, r2_h_0, q2_h_1, r2_h_1, q2_h_2, r2_h_2, z2_h, q2_h_1_0, r2_h_1_0, z2_h_1]
  have r3_h_2 : w3.frozen? ⟨w.heap.size, 2, none⟩ = false := by rw [kf3 _ _ (by first | assumption | (simp; done) | (simp; omega) | omega)]; simp [go_sem, q2_h_0, r2_h_0, q2_h_1, r2_h_1, q2_h_2, r2_h_2, z2_h, q2_h_1_0, r2_h_1_0, z2_h_1]
  have z3_h : w.heap.size < w3.heap.size := kz3 _ (by first | assumption | (simp; done) | (simp; omega) | omega)
  have q3_h_1_0 : w3.cell? ⟨w.heap.size + 1, 0, none⟩ = some (.int .i64 m) := by rw [kc3 _ _ (by first | assumption | (simp; done) | (simp; omega) | omega)]; simp [go_sem, q2_h_0, r2_h_0, q2_h_1, r2_h_1, q2_h_2, r2_h_2, z2_h, q2_h_1_0, r2_h_1_0, z2_h_1]
  have r3_h_1_0 : w3.frozen? ⟨w.heap.size + 1, 0, none⟩ = false := by rw [kf3 _ _ (by first | assumption | (simp; done) | (simp; omega) | omega)]; simp [go_sem, q2_h_0, r2_h_0, q2_h_1, r2_h_1, q2_h_2, r2_h_2, z2_h, q2_h_1_0, r2_h_1_0, z2_h_1]
  have z3_h_1 : w.heap.size + 1 < w3.heap.size := kz3 _ (by first | assumption | (simp; done) | (simp; omega) | omega)
  clear kc3 kf3 kz3 ky3 kx3 kv3 ku3 hb3 q2_h_0 r2_h_0 q2_h_1 r2_h_1 q2_h_2 r2_h_2 z2_h q2_h_1_0 r2_h_1_0 z2_h_1
  go_wp2
  go_ret
  exact ⟨_, rfl, ⟨w.heap.size, w.heap.size + 1, fA3, fB3, rfl⟩, by (repeat (first | with_reducible exact Below.refl _ _ | with_reducible assumption | with_reducible refine balloc ?_ _ | with_reducible refine bdrew ?_ | with_reducible refine below_drewN ?_ _ | with_reducible refine bset ?_ ?_ _ | with_reducible exact Nat.le_refl _ | with_reducible refine bsize ?_ | (dsimp only; refine Nat.le_trans ?_ (Nat.le_add_right _ _)) | with_reducible refine Nat.le_trans ?_ (Nat.le_add_right _ _) | (with_reducible refine bstep ?_ (by assumption))))⟩
set_option maxHeartbeats 3200000 in
theorem tr_yes_3 (m a b : Int) (hm : 1 ≤ m ∧ m ≤ 10) (h : ofB 3 a b 3 1 m (m - 1) = true) (w : World) :
    Calls Try.prog 55 #[.agg #[.int .i64 3, .int .i64 a, .int .i64 b], .int .i64 m] w fun e w' => ∃ v, e = .returned v ∧ TrialAt m ⟨3, a, b⟩ v w' ∧ Below w.heap.size w w' := by
  have hmf : ∀ (fn : Fn) (first cap : Array Value) (w : World), (Instr.makeFunc fn first cap).run Try.prog w = .ok (.func fn first cap) w := fun _ _ _ _ => rfl
  have n0 : ofB 3 a b 0 1 (m - 1) 0 = false := ofB_ne (by decide)
  have n1 : ofB 3 a b 1 1 (m - 1) 0 = false := ofB_ne (by decide)
  have n2 : ofB 3 a b 2 0 (m - 1) 0 = false := ofB_ne (by decide)
  go_enter Try.func55, Try.ntmps55
  (go_wp2_with fail; refine (isOf_impl _ _ _ _ _ _ _ _).mono ?_; rintro e w1 ⟨rfl, hb1⟩; rw [n0]; (have ha1 : Below w.heap.size w w1 := by (repeat (first | with_reducible exact Below.refl _ _ | with_reducible assumption | with_reducible refine balloc ?_ _ | with_reducible refine bdrew ?_ | with_reducible refine below_drewN ?_ _ | with_reducible refine bset ?_ ?_ _ | with_reducible exact Nat.le_refl _ | with_reducible refine bsize ?_ | (dsimp only; refine Nat.le_trans ?_ (Nat.le_add_right _ _)) | with_reducible refine Nat.le_trans ?_ (Nat.le_add_right _ _) | (with_reducible refine bstep ?_ (by assumption))))); obtain ⟨kc1, kf1, kz1, ky1, kx1, kv1, ku1⟩ := bcell hb1)
  have fA1 : Blk w.heap.size #[.int .i64 3, .int .i64 a, .int .i64 b] 27 w1 := ((Blk.new w _ _).alloc _).later hb1
  have fB1 : Blk (w.heap.size + 1) #[.int .i64 m] 3 w1 := Blk.later (by have h := Blk.new (w.alloc (.cells #[.int .i64 3, .int .i64 a, .int .i64 b] 27)) #[.int .i64 m] 3; rw [World.size_alloc] at h; exact h) hb1
  have q1_h_0 : w1.cell? ⟨w.heap.size, 0, none⟩ = some (.int .i64 3) := by rw [kc1 _ _ (by first | assumption | (simp; done) | (simp; omega) | omega)]; simp [go_sem]
  have r1_h_0 : w1.frozen? ⟨w.heap.size, 0, none⟩ = false := by rw [kf1 _ _ (by first | assumption | (simp; done) | (simp; omega) | omega)]; simp [go_sem]
  have q1_h_1 : w1.cell? ⟨w.heap.size, 1, none⟩ = some (.int .i64 a) := by rw [kc1 _ _ (by first | assumption | (simp; done) | (simp; omega) | omega)]; simp [go_sem]
  have r1_h_1 : w1.frozen? ⟨w.heap.size, 1, none⟩ = false := by rw [kf1 _ _ (by first | assumption | (simp; done) | (simp; omega) | omega)]; simp [go_sem]
  have q1_h_2 : w1.cell? ⟨w.heap.size, 2, none⟩ = some (.int .i64 b) := by rw [kc1 _ _ (by first | assumption | (simp; done) | (simp; omega) | omega)]; simp [go_sem]
  have r1_h_2 : w1.frozen? ⟨w.heap.size, 2, none⟩ = false := by rw [kf1 _ _ (by first | assumption | (simp; done) | (simp; omega) | omega)]; simp [go_sem]
  have z1_h : w.heap.size < w1.heap.size := kz1 _ (by first | assumption | (simp; done) | (simp; omega) | omega)
  have q1_h_1_0 : w1.cell? ⟨w.heap.size + 1, 0, none⟩ = some (.int .i64 m) := by rw [kc1 _ _ (by first | assumption | (simp; done) | (simp; omega) | omega)]; simp [go_sem]
  have r1_h_1_0 : w1.frozen? ⟨w.heap.size + 1, 0, none⟩ = false := by rw [kf1 _ _ (by first | assumption | (simp; done) | (simp; omega) | omega)]; simp [go_sem]
  have z1_h_1 : w.heap.size + 1 < w1.heap.size := kz1 _ (by first | assumption | (simp; done) | (simp; omega) | omega)
  clear kc1 kf1 kz1 ky1 kx1 kv1 ku1 hb1
  (go_wp2_with fail; refine (isOf_impl _ _ _ _ _ _ _ _).mono ?_; rintro e w2 ⟨rfl, hb2⟩; rw [n1]; (have ha2 : Below w.heap.size w w2 := by (repeat (first | with_reducible exact Below.refl _ _ | with_reducible assumption | with_reducible refine balloc ?_ _ | with_reducible refine bdrew ?_ | with_reducible refine below_drewN ?_ _ | with_reducible refine bset ?_ ?_ _ | with_reducible exact Nat.le_refl _ | with_reducible refine bsize ?_ | (dsimp only; refine Nat.le_trans ?_ (Nat.le_add_right _ _)) | with_reducible refine Nat.le_trans ?_ (Nat.le_add_right _ _) | (with_reducible refine bstep ?_ (by assumption))))); obtain ⟨kc2, kf2, kz2, ky2, kx2, kv2, ku2⟩ := bcell hb2)
  have fA2 := fA1.later hb2
  have fB2 := fB1.later hb2
  clear fA1 fB1
  have q2_h_0 : w2.cell? ⟨w.heap.size, 0, none⟩ = some (.int .i64 3) := by rw [kc2 _ _ (by first | assumption | (simp; done) | (simp; omega) | omega)]; simp [go_sem, q1_h_0, r1_h_0, q1_h_1, r1_h_1, q1_h_2, r1_h_2, z1_h, q1_h_1_0, r1_h_1_0, z1_h_1]
  have r2_h_0 : w2.frozen? ⟨w.heap.size, 0, none⟩ = false := by rw [kf2 _ _ (by first | assumption | (simp; done) | (simp; omega) | omega)]; simp [go_sem, q1_h_0, r1_h_0, q1_h_1, r1_h_1, q1_h_2, r1_h_2, z1_h, q1_h_1_0, r1_h_1_0, z1_h_1]
  have q2_h_1 : w2.cell? ⟨w.heap.size, 1, none⟩ = some (.int .i64 a) := by rw [kc2 _ _ (by first | assumption | (simp; done) | (simp; omega) | omega)]; simp [go_sem, q1_h_0, r1_h_0, q1_h_1, r1_h_1, q1_h_2, r1_h_2, z1_h, q1_h_1_0, r1_h_1_0, z1_h_1]
  have r2_h_1 : w2.frozen? ⟨w.heap.size, 1, none⟩ = false := by rw [kf2 _ _ (by first | assumption | (simp; done) | (simp; omega) | omega)]; simp [go_sem, q1_h_0, r1_h_0, q1_h_1, r1_h_1, q1_h_2, r1_h_2, z1_h, q1_h_1_0, r1_h_1_0, z1_h_1]
  have q2_h_2 : w2.cell? ⟨w.heap.size, 2, none⟩ = some (.int .i64 b) := by rw [kc2 _ _ (by first | assumption | (simp; done) | (simp; omega) | omega)]; simp [go_sem, q1_h_0, r1_h_0, q1_h_1, r1_h_1, q1_h_2, r1_h_2, z1_h, q1_h_1_0, r1_h_1_0, z1_h_1]
  have r2_h_2 : w2.frozen? ⟨w.heap.size, 2, none⟩ = false := by rw [kf2 _ _ (by first | assumption | (simp; done) | (simp; omega) | omega)]; simp [go_sem, q1_h_0, r1_h_0, q1_h_1, r1_h_1, q1_h_2, r1_h_2, z1_h, q1_h_1_0, r1_h_1_0, z1_h_1]
  have z2_h : w.heap.size < w2.heap.size := kz2 _ (by first | assumption | (simp; done) | (simp; omega) | omega)
  have q2_h_1_0 : w2.cell? ⟨w.heap.size + 1, 0, none⟩ = some (.int .i64 m) := by rw [kc2 _ _ (by first | assumption | (simp; done) | (simp; omega) | omega)]; simp [go_sem, q1_h_0, r1_h_0, q1_h_1, r1_h_1, q1_h_2, r1_h_2, z1_h, q1_h_1_0, r1_h_1_0, z1_h_1]
  have r2_h_1_0 : w2.frozen? ⟨w.heap.size + 1, 0, none⟩ = false := by rw [kf2 _ _ (by first | assumption | (simp; done) | (simp; omega) | omega)]; simp [go_sem, q1_h_0, r1_h_0, q1_h_1, r1_h_1, q1_h_2, r1_h_2, z1_h, q1_h_1_0, r1_h_1_0, z1_h_1]
  have z2_h_1 : w.heap.size + 1 < w2.heap.size := kz2 _ (by first | assumption | (simp; done) | (simp; omega) | omega)
  clear kc2 kf2 kz2 ky2 kx2 kv2 ku2 hb2 q1_h_0 r1_h_0 q1_h_1 r1_h_1 q1_h_2 r1_h_2 z1_h q1_h_1_0 r1_h_1_0 z1_h_1
  (go_wp2_with fail; refine (isOf_impl _ _ _ _ _ _ _ _).mono ?_; rintro e w3 ⟨rfl, hb3⟩; rw [n2]; (have ha3 : Below w.heap.size w w3 := by (repeat (first | with_reducible exact Below.refl _ _ | with_reducible assumption | with_reducible refine balloc ?_ _ | with_reducible refine bdrew ?_ | with_reducible refine below_drewN ?_ _ | with_reducible refine bset ?_ ?_ _ | with_reducible exact Nat.le_refl _ | with_reducible refine bsize ?_ | (dsimp only; refine Nat.le_trans ?_ (Nat.le_add_right _ _)) | with_reducible refine Nat.le_trans ?_ (Nat.le_add_right _ _) | (with_reducible refine bstep ?_ (by assumption))))); obtain ⟨kc3, kf3, kz3, ky3, kx3, kv3, ku3⟩ := bcell hb3)
  have fA3 := fA2.later hb3
  have fB3 := fB2.later hb3
  clear fA2 fB2
  have q3_h_0 : w3.cell? ⟨w.heap.size, 0, none⟩ = some (.int .i64 3) := by rw [kc3 _ _ (by first | assumption | (simp; done) | (simp; omega) | omega)]; simp [go_sem, q2_h_0, r2_h_0, q2_h_1, r2_h_1, q2_h_2, r2_h_2, z2_h, q2_h_1_0, r2_h_1_0, z2_h_1]
  have r3_h_0 : w3.frozen? ⟨w.heap.size, 0, none⟩ = false := by rw [kf3 _ _ (by first | assumption | (simp; done) | (simp; omega) | omega)]; simp [go_sem, q2_h_0, r2_h_0, q2_h_1, r2_h_1, q2_h_2, r2_h_2, z2_h, q2_h_1_0, r2_h_1_0, z2_h_1]
  have q3_h_1 : w3.cell? ⟨w.heap.size, 1, none⟩ = some (.int .i64 a) := by rw [kc3 _ _ (by first | assumption | (simp; done) | (simp; omega) | omega)]; simp [go_sem, q2_h_0, r2_h_0, q2_h_1, r2_h_1, q2_h_2, r2_h_2, z2_h, q2_h_1_0, r2_h_1_0, z2_h_1]
  have r3_h_1 : w3.frozen? ⟨w.heap.size, 1, none⟩ = false := by rw [kf3 _ _ (by first | assumption | (simp; done) | (simp; omega) | omega)]; simp [go_sem, q2_h_0, r2_h_0, q2_h_1, r2_h_1, q2_h_2, r2_h_2, z2_h, q2_h_1_0, r2_h_1_0, z2_h_1]
  have q3_h_2 : w3.cell? ⟨w.heap.size, 2, none⟩ = some (.int .i64 b) := by rw [kc3 _ _ (by first | assumption | (simp; done) | (simp; omega) | omega)]; simp [go_sem, q2_h_0, r2_h_0, q2_h_1, r2_h_1, q2_h_2, r2_h_2, z2_h, q2_h_1_0, r2_h_1_0, z2_h_1]
  have r3_h_2 : w3.frozen? ⟨w.heap.size, 2, none⟩ = false := by rw [kf3 _ _ (by first | assumption | (simp; done) | (simp; omega) | omega)]; simp [go_sem, q2_h_0, r2_h_0, q2_h_1, r2_h_1, q2_h_2, r2_h_2, z2_h, q2_h_1_0, r2_h_1_0, z2_h_1]
  have z3_h : w.heap.size < w3.heap.size := kz3 _ (by first | assumption | (simp; done) | (simp; omega) | omega)
  have q3_h_1_0 : w3.cell? ⟨w.heap.size + 1, 0, none⟩ = some (.int .i64 m) := by rw [kc3 _ _ (by first | assumption | (simp; done) | (simp; omega) | omega)]; simp [go_sem, q2_h_0, r2_h_0, q2_h_1, r2_h_1, q2_h_2, r2_h_2, z2_h, q2_h_1_0, r2_h_1_0, z2_h_1]
  have r3_h_1_0 : w3.frozen? ⟨w.heap.size + 1, 0, none⟩ = false := by rw [kf3 _ _ (by first | assumption | (simp; done) | (simp; omega) | omega)]; simp [go_sem, q2_h_0, r2_h_0, q2_h_1, r2_h_1, q2_h_2, r2_h_2, z2_h, q2_h_1_0, r2_h_1_0, z2_h_1]
  have z3_h_1 : w.heap.size + 1 < w3.heap.size := kz3 _ (by first | assumption | (simp; done) | (simp; omega) | omega)
  clear kc3 kf3 kz3 ky3 kx3 kv3 ku3 hb3 q2_h_0 r2_h_0 q2_h_1 r2_h_1 q2_h_2 r2_h_2 z2_h q2_h_1_0 r2_h_1_0 z2_h_1
  (go_wp2_with fail; refine (isOf_impl _ _ _ _ _ _ _ _).mono ?_; rintro e w4 ⟨rfl, hb4⟩; rw [h]; (have ha4 : Below w.heap.size w w4 := by (repeat (first | with_reducible exact Below.refl _ _ | with_reducible assumption | with_reducible refine balloc ?_ _ | with_reducible refine bdrew ?_ | with_reducible refine below_drewN ?_ _ | with_reducible refine bset ?_ ?_ _ | with_reducible exact Nat.le_refl _ | with_reducible refine bsize ?_ | (dsimp only; refine Nat.le_trans ?_ (Nat.le_add_right _ _)) | with_reducible refine Nat.le_trans ?_ (Nat.le_add_right _ _) | (with_reducible refine bstep ?_ (by assumption))))); obtain ⟨kc4, kf4, kz4, ky4, kx4, kv4, ku4⟩ := bcell hb4)
  have fA4 := fA3.later hb4
  have fB4 := fB3.later hb4
  clear fA3 fB3
  have q4_h_0 : w4.cell? ⟨w.heap.size, 0, none⟩ = some (.int .i64 3) := by rw [kc4 _ _ (by first | assumption | (simp; done) | (simp; omega) | omega)]; simp [go_sem, q3_h_0, r3_h_0, q3_h_1, r3_h_1, q3_h_2, r3_h_2, z3_h, q3_h_1_0, r3_h_1_0, z3_h_1]
  have r4_h_0 : w4.frozen? ⟨w.heap.size, 0, none⟩ = false := by rw [kf4 _ _ (by first | assumption | (simp; done) | (simp; omega) | omega)]; simp [go_sem, q3_h_0, r3_h_0, q3_h_1, r3_h_1, q3_h_2, r3_h_2, z3_h, q3_h_1_0, r3_h_1_0, z3_h_1]
  have q4_h_1 : w4.cell? ⟨w.heap.size, 1, none⟩ = some (.int .i64 a) := by rw [kc4 _ _ (by first | assumption | (simp; done) | (simp; omega) | omega)]; simp [go_sem, q3_h_0, r3_h_0, q3_h_1, r3_h_1, q3_h_2, r3_h_2, z3_h, q3_h_1_0, r3_h_1_0, z3_h_1]
  have r4_h_1 : w4.frozen? ⟨w.heap.size, 1, none⟩ = false := by rw [kf4 _ _ (by first | assumption | (simp; done) | (simp; omega) | omega)]; simp [go_sem, q3_h_0, r3_h_0, q3_h_1, r3_h_1, q3_h_2, r3_h_2, z3_h, q3_h_1_0, r3_h_1_0, z3_h_1]
  have q4_h_2 : w4.cell? ⟨w.heap.size, 2, none⟩ = some (.int .i64 b) := by rw [kc4 _ _ (by first | assumption | (simp; done) | (simp; omega) | omega)]; simp [go_sem, q3_h_0, r3_h_0, q3_h_1, r3_h_1, q3_h_2, r3_h_2, z3_h, q3_h_1_0, r3_h_1_0, z3_h_1]
  have r4_h_2 : w4.frozen? ⟨w.heap.size, 2, none⟩ = false := by rw [kf4 _ _ (by first | assumption | (simp; done) | (simp; omega) | omega)]; simp [go_sem, q3_h_0, r3_h_0, q3_h_1, r3_h_1, q3_h_2, r3_h_2, z3_h, q3_h_1_0, r3_h_1_0, z3_h_1]
  have z4_h : w.heap.size < w4.heap.size := kz4 _ (by first | assumption | (simp; done) | (simp; omega) | omega)
  have q4_h_1_0 : w4.cell? ⟨w.heap.size + 1, 0, none⟩ = some (.int .i64 m) := by rw [kc4 _ _ (by first | assumption | (simp; done) | (simp; omega) | omega)]; simp [go_sem, q3_h_0, r3_h_0, q3_h_1, r3_h_1, q3_h_2, r3_h_2, z3_h, q3_h_1_0, r3_h_1_0, z3_h_1]
  have r4_h_1_0 : w4.frozen? ⟨w.heap.size + 1, 0, none⟩ = false := by rw [kf4 _ _ (by first | assumption | (simp; done) | (simp; omega) | omega)]; simp [go_sem, q3_h_0, r3_h_0, q3_h_1, r3_h_1, q3_h_2, r3_h_2, z3_h, q3_h_1_0, r3_h_1_0, z3_h_1]
  have z4_h_1 : w.heap.size + 1 < w4.heap.size := kz4 _ (by first | assumption | (simp; done) | (simp; omega) | omega)
  clear kc4 kf4 kz4 ky4 kx4 kv4 ku4 hb4 q3_h_0 r3_h_0 q3_h_1 r3_h_1 q3_h_2 r3_h_2 z3_h q3_h_1_0 r3_h_1_0 z3_h_1
  go_wp2
  go_ret
  exact ⟨_, rfl, ⟨w.heap.size, w.heap.size + 1, fA4, fB4, rfl⟩, by (repeat (first | with_reducible exact Below.refl _ _ | with_reducible assumption | with_reducible refine balloc ?_ _ | with_reducible refine bdrew ?_ | with_reducible refine below_drewN ?_ _ | with_reducible refine bset ?_ ?_ _ | with_reducible exact Nat.le_refl _ | with_reducible refine bsize ?_ | (dsimp only; refine Nat.le_trans ?_ (Nat.le_add_right _ _)) | with_reducible refine Nat.le_trans ?_ (Nat.le_add_right _ _) | (with_reducible refine bstep ?_ (by assumption))))⟩
set_option maxHeartbeats 3200000 in
theorem tr_yes_4 (m a b : Int) (hm : 1 ≤ m ∧ m ≤ 10) (h : ofB 4 a b 4 1 m 0 = true) (w : World) :
    Calls Try.prog 55 #[.agg #[.int .i64 4, .int .i64 a, .int .i64 b], .int .i64 m] w fun e w' => ∃ v, e = .returned v ∧ TrialAt m ⟨4, a, b⟩ v w' ∧ Below w.heap.size w w' := by
  have hmf : ∀ (fn : Fn) (first cap : Array Value) (w : World), (Instr.makeFunc fn first cap).run Try.prog w = .ok (.func fn first cap) w := fun _ _ _ _ => rfl
  have n0 : ofB 4 a b 0 1 (m - 1) 0 = false := ofB_ne (by decide)
  have n1 : ofB 4 a b 1 1 (m - 1) 0 = false := ofB_ne (by decide)
  have n2 : ofB 4 a b 2 0 (m - 1) 0 = false := ofB_ne (by decide)
  have n3 : ofB 4 a b 3 1 m (m - 1) = false := ofB_ne (by decide)
  go_enter Try.func55, Try.ntmps55
  (go_wp2_with fail; refine (isOf_impl _ _ _ _ _ _ _ _).mono ?_; rintro e w1 ⟨rfl, hb1⟩; rw [n0]; (have ha1 : Below w.heap.size w w1 := by (repeat (first | with_reducible exact Below.refl _ _ | with_reducible assumption | with_reducible refine balloc ?_ _ | with_reducible refine bdrew ?_ | with_reducible refine below_drewN ?_ _ | with_reducible refine bset ?_ ?_ _ | with_reducible exact Nat.le_refl _ | with_reducible refine bsize ?_ | (dsimp only; refine Nat.le_trans ?_ (Nat.le_add_right _ _)) | with_reducible refine Nat.le_trans ?_ (Nat.le_add_right _ _) | (with_reducible refine bstep ?_ (by assumption))))); obtain ⟨kc1, kf1, kz1, ky1, kx1, kv1, ku1⟩ := bcell hb1)
  have fA1 : Blk w.heap.size #[.int .i64 4, .int .i64 a, .int .i64 b] 27 w1 := ((Blk.new w _ _).alloc _).later hb1
  have fB1 : Blk (w.heap.size + 1) #[.int .i64 m] 3 w1 := Blk.later (by have h := Blk.new (w.alloc (.cells #[.int .i64 4, .int .i64 a, .int .i64 b] 27)) #[.int .i64 m] 3; rw [World.size_alloc] at h; exact h) hb1
  have q1_h_0 : w1.cell? ⟨w.heap.size, 0, none⟩ = some (.int .i64 4) := by rw [kc1 _ _ (by first | assumption | (simp; done) | (simp; omega) | omega)]; simp [go_sem]
  have r1_h_0 : w1.frozen? ⟨w.heap.size, 0, none⟩ = false := by rw [kf1 _ _ (by first | assumption | (simp; done) | (simp; omega) | omega)]; simp [go_sem]
  have q1_h_1 : w1.cell? ⟨w.heap.size, 1, none⟩ = some (.int .i64 a) := by rw [kc1 _ _ (by first | assumption | (simp; done) | (simp; omega) | omega)]; simp [go_sem]
  have r1_h_1 : w1.frozen? ⟨w.heap.size, 1, none⟩ = false := by rw [kf1 _ _ (by first | assumption | (simp; done) | (simp; omega) | omega)]; simp [go_sem]
  have q1_h_2 : w1.cell? ⟨w.heap.size, 2, none⟩ = some (.int .i64 b) := by rw [kc1 _ _ (by first | assumption | (simp; done) | (simp; omega) | omega)]; simp [go_sem]
  have r1_h_2 : w1.frozen? ⟨w.heap.size, 2, none⟩ = false := by rw [kf1 _ _ (by first | assumption | (simp; done) | (simp; omega) | omega)]; simp [go_sem]
  have z1_h : w.heap.size < w1.heap.size := kz1 _ (by first | assumption | (simp; done) | (simp; omega) | omega)
  have q1_h_1_0 : w1.cell? ⟨w.heap.size + 1, 0, none⟩ = some (.int .i64 m) := by rw [kc1 _ _ (by first | assumption | (simp; done) | (simp; omega) | omega)]; simp [go_sem]
  have r1_h_1_0 : w1.frozen? ⟨w.heap.size + 1, 0, none⟩ = false := by rw [kf1 _ _ (by first | assumption | (simp; done) | (simp; omega) | omega)]; simp [go_sem]
  have z1_h_1 : w.heap.size + 1 < w1.heap.size := kz1 _ (by first | assumption | (simp; done) | (simp; omega) | omega)
  clear kc1 kf1 kz1 ky1 kx1 kv1 ku1 hb1
  (go_wp2_with fail; refine (isOf_impl _ _ _ _ _ _ _ _).mono ?_; rintro e w2 ⟨rfl, hb2⟩; rw [n1]; (have ha2 : Below w.heap.size w w2 := by (repeat (first | with_reducible exact Below.refl _ _ | with_reducible assumption | with_reducible refine balloc ?_ _ | with_reducible refine bdrew ?_ | with_reducible refine below_drewN ?_ _ | with_reducible refine bset ?_ ?_ _ | with_reducible exact Nat.le_refl _ | with_reducible refine bsize ?_ | (dsimp only; refine Nat.le_trans ?_ (Nat.le_add_right _ _)) | with_reducible refine Nat.le_trans ?_ (Nat.le_add_right _ _) | (with_reducible refine bstep ?_ (by assumption))))); obtain ⟨kc2, kf2, kz2, ky2, kx2, kv2, ku2⟩ := bcell hb2)
  have fA2 := fA1.later hb2
  have fB2 := fB1.later hb2
  clear fA1 fB1
  have q2_h_0 : w2.cell? ⟨w.heap.size, 0, none⟩ = some (.int .i64 4) := by rw [kc2 _ _ (by first | assumption | (simp; done) | (simp; omega) | omega)]; simp [go_sem, q1_h_0, r1_h_0, q1_h_1, r1_h_1, q1_h_2, r1_h_2, z1_h, q1_h_1_0, r1_h_1_0, z1_h_1]
  have r2_h_0 : w2.frozen? ⟨w.heap.size, 0, none⟩ = false := by rw [kf2 _ _ (by first | assumption | (simp; done) | (simp; omega) | omega)]; simp [go_sem, q1_h_0, r1_h_0, q1_h_1, r1_h_1, q1_h_2, r1_h_2, z1_h, q1_h_1_0, r1_h_1_0, z1_h_1]
  have q2_h_1 : w2.cell? ⟨w.heap.size, 1, none⟩ = some (.int .i64 a) := by rw [kc2 _ _ (by first | assumption | (simp; done) | (simp; omega) | omega)]; simp [go_sem, q1_h_0, r1_h_0, q1_h_1, r1_h_1, q1_h_2, r1_h_2, z1_h, q1_h_1_0, r1_h_1_0, z1_h_1]
  have r2_h_1 : w2.frozen? ⟨w.heap.size, 1, none⟩ = false := by rw [kf2 _ _ (by first | assumption | (simp; done) | (simp; omega) | omega)]; simp [go_sem, q1_h_0, r1_h_0, q1_h_1, r1_h_1, q1_h_2, r1_h_2, z1_h, q1_h_1_0, r1_h_1_0, z1_h_1]
  have q2_h_2 : w2.cell? ⟨w.heap.size, 2, none⟩ = some (.int .i64 b) := by rw [kc2 _ _ (by first | assumption | (simp; done) | (simp; omega) | omega)]; simp [go_sem, q1_h_0, r1_h_0, q1_h_1, r1_h_1, q1_h_2, r1_h_2, z1_h, q1_h_1_0, r1_h_1_0, z1_h_1]
  have r2_h_2 : w2.frozen? ⟨w.heap.size, 2, none⟩ = false := by rw [kf2 _ _ (by first | assumption | (simp; done) | (simp; omega) | omega)]; simp [go_sem, q1_h_0, r1_h_0, q1_h_1, r1_h_1, q1_h_2, r1_h_2, z1_h, q1_h_1_0, r1_h_1_0, z1_h_1]
  have z2_h : w.heap.size < w2.heap.size := kz2 _ (by first | assumption | (simp; done) | (simp; omega) | omega)
  have q2_h_1_0 : w2.cell? ⟨w.heap.size + 1, 0, none⟩ = some (.int .i64 m) := by rw [kc2 _ _ (by first | assumption | (simp; done) | (simp; omega) | omega)]; simp [go_sem, q1_h_0, r1_h_0, q1_h_1, r1_h_1, q1_h_2, r1_h_2, z1_h, q1_h_1_0, r1_h_1_0, z1_h_1]
  have r2_h_1_0 : w2.frozen? ⟨w.heap.size + 1, 0, none⟩ = false := by rw [kf2 _ _ (by first | assumption | (simp; done) | (simp; omega) | omega)]; simp [go_sem, q1_h_0, r1_h_0, q1_h_1, r1_h_1, q1_h_2, r1_h_2, z1_h, q1_h_1_0, r1_h_1_0, z1_h_1]
  have z2_h_1 : w.heap.size + 1 < w2.heap.size := kz2 _ (by first | assumption | (simp; done) | (simp; omega) | omega)
  clear kc2 kf2 kz2 ky2 kx2 kv2 ku2 hb2 q1_h_0 r1_h_0 q1_h_1 r1_h_1 q1_h_2 r1_h_2 z1_h q1_h_1_0 r1_h_1_0 z1_h_1
  (go_wp2_with fail; refine (isOf_impl _ _ _ _ _ _ _ _).mono ?_; rintro e w3 ⟨rfl, hb3⟩; rw [n2]; (have ha3 : Below w.heap.size w w3 := by (repeat (first | with_reducible exact Below.refl _ _ | with_reducible assumption | with_reducible refine balloc ?_ _ | with_reducible refine bdrew ?_ | with_reducible refine below_drewN ?_ _ | with_reducible refine bset ?_ ?_ _ | with_reducible exact Nat.le_refl _ | with_reducible refine bsize ?_ | (dsimp only; refine Nat.le_trans ?_ (Nat.le_add_right _ _)) | with_reducible refine Nat.le_trans ?_ (Nat.le_add_right _ _) | (with_reducible refine bstep ?_ (by assumption))))); obtain ⟨kc3, kf3, kz3, ky3, kx3, kv3, ku3⟩ := bcell hb3)
  have fA3 := fA2.later hb3
  have fB3 := fB2.later hb3
  clear fA2 fB2
  have q3_h_0 : w3.cell? ⟨w.heap.size, 0, none⟩ = some (.int .i64 4) := by rw [kc3 _ _ (by first | assumption | (simp; done) | (simp; omega) | omega)]; simp [go_sem, q2_h_0, r2_h_0, q2_h_1, r2_h_1, q2_h_2, r2_h_2, z2_h, q2_h_1_0, r2_h_1_0, z2_h_1]
  have r3_h_0 : w3.frozen? ⟨w.heap.size, 0, none⟩ = false := by rw [kf3 _ _ (by first | assumption | (simp; done) | (simp; omega) | omega)]; simp [go_sem, q2_h_0, r2_h_0, q2_h_1, r2_h_1, q2_h_2, r2_h_2, z2_h, q2_h_1_0, r2_h_1_0, z2_h_1]
  have q3_h_1 : w3.cell? ⟨w.heap.size, 1, none⟩ = some (.int .i64 a) := by rw [kc3 _ _ (by first | assumption | (simp; done) | (simp; omega) | omega)]; simp [go_sem, q2_h_0, r2_h_0, q2_h_1, r2_h_1, q2_h_2, r2_h_2, z2_h, q2_h_1_0, r2_h_1_0, z2_h_1]
  have r3_h_1 : w3.frozen? ⟨w.heap.size, 1, none⟩ = false := by rw [kf3 _ _ (by first | assumption | (simp; done) | (simp; omega) | omega)]; simp [go_sem, q2_h_0, r2_h_0, q2_h_1, r2_h_1, q2_h_2, r2_h_2, z2_h, q2_h_1_0, r2_h_1_0, z2_h_1]
  have q3_h_2 : w3.cell? ⟨w.heap.size, 2, none⟩ = some (.int .i64 b) := by rw [kc3 _ _ (by first | assumption | (simp; done) | (simp; omega) | omega)]; simp [go_sem, q2_h_0, r2_h_0, q2_h_1, r2_h_1, q2_h_2, r2_h_2, z2_h, q2_h_1_0, r2_h_1_0, z2_h_1]
  have r3_h_2 : w3.frozen? ⟨w.heap.size, 2, none⟩ = false := by rw [kf3 _ _ (by first | assumption | (simp; done) | (simp; omega) | omega)]; simp [go_sem, q2_h_0, r2_h_0, q2_h_1, r2_h_1, q2_h_2, r2_h_2, z2_h, q2_h_1_0, r2_h_1_0, z2_h_1]
  have z3_h : w.heap.size < w3.heap.size := kz3 _ (by first | assumption | (simp; done) | (simp; omega) | omega)
  have q3_h_1_0 : w3.cell? ⟨w.heap.size + 1, 0, none⟩ = some (.int .i64 m) := by rw [kc3 _ _ (by first | assumption | (simp; done) | (simp; omega) | omega)]; simp [go_sem, q2_h_0, r2_h_0, q2_h_1, r2_h_1, q2_h_2, r2_h_2, z2_h, q2_h_1_0, r2_h_1_0, z2_h_1]
  have r3_h_1_0 : w3.frozen? ⟨w.heap.size + 1, 0, none⟩ = false := by rw [kf3 _ _ (by first | assumption | (simp; done) | (simp; omega) | omega)]; simp [go_sem, q2_h_0, r2_h_0, q2_h_1, r2_h_1, q2_h_2, r2_h_2, z2_h, q2_h_1_0, r2_h_1_0, z2_h_1]
  have z3_h_1 : w.heap.size + 1 < w3.heap.size := kz3 _ (by first | assumption | (simp; done) | (simp; omega) | omega)
  clear kc3 kf3 kz3 ky3 kx3 kv3 ku3 hb3 q2_h_0 r2_h_0 q2_h_1 r2_h_1 q2_h_2 r2_h_2 z2_h q2_h_1_0 r2_h_1_0 z2_h_1
  (go_wp2_with fail; refine (isOf_impl _ _ _ _ _ _ _ _).mono ?_; rintro e w4 ⟨rfl, hb4⟩; rw [n3]; (have ha4 : Below w.heap.size w w4 := by (repeat (first | with_reducible exact Below.refl _ _ | with_reducible assumption | with_reducible refine balloc ?_ _ | with_reducible refine bdrew ?_ | with_reducible refine below_drewN ?_ _ | with_reducible refine bset ?_ ?_ _ | with_reducible exact Nat.le_refl _ | with_reducible refine bsize ?_ | (dsimp only; refine Nat.le_trans ?_ (Nat.le_add_right _ _)) | with_reducible refine Nat.le_trans ?_ (Nat.le_add_right _ _) | (with_reducible refine bstep ?_ (by assumption))))); obtain ⟨kc4, kf4, kz4, ky4, kx4, kv4, ku4⟩ := bcell hb4)
  have fA4 := fA3.later hb4
  have fB4 := fB3.later hb4
  clear fA3 fB3
  have q4_h_0 : w4.cell? ⟨w.heap.size, 0, none⟩ = some (.int .i64 4) := by rw [kc4 _ _ (by first | assumption | (simp; done) | (simp; omega) | omega)]; simp [go_sem, q3_h_0, r3_h_0, q3_h_1, r3_h_1, q3_h_2, r3_h_2, z3_h, q3_h_1_0, r3_h_1_0, z3_h_1]
  have r4_h_0 : w4.frozen? ⟨w.heap.size, 0, none⟩ = false := by rw [kf4 _ _ (by first | assumption | (simp; done) | (simp; omega) | omega)]; simp [go_sem, q3_h_0, r3_h_0, q3_h_1, r3_h_1, q3_h_2, r3_h_2, z3_h, q3_h_1_0, r3_h_1_0, z3_h_1]
  have q4_h_1 : w4.cell? ⟨w.heap.size, 1, none⟩ = some (.int .i64 a) := by rw [kc4 _ _ (by first | assumption | (simp; done) | (simp; omega) | omega)]; simp [go_sem, q3_h_0, r3_h_0, q3_h_1, r3_h_1, q3_h_2, r3_h_2, z3_h, q3_h_1_0, r3_h_1_0, z3_h_1]
  have r4_h_1 : w4.frozen? ⟨w.heap.size, 1, none⟩ = false := by rw [kf4 _ _ (by first | assumption | (simp; done) | (simp; omega) | omega)]; simp [go_sem, q3_h_0, r3_h_0, q3_h_1, r3_h_1, q3_h_2, r3_h_2, z3_h, q3_h_1_0, r3_h_1_0, z3_h_1]
  have q4_h_2 : w4.cell? ⟨w.heap.size, 2, none⟩ = some (.int .i64 b) := by rw [kc4 _ _ (by first | assumption | (simp; done) | (simp; omega) | omega)]; simp [go_sem, q3_h_0, r3_h_0, q3_h_1, r3_h_1, q3_h_2, r3_h_2, z3_h, q3_h_1_0, r3_h_1_0, z3_h_1]
  have r4_h_2 : w4.frozen? ⟨w.heap.size, 2, none⟩ = false := by rw [kf4 _ _ (by first | assumption | (simp; done) | (simp; omega) | omega)]; simp [go_sem, q3_h_0, r3_h_0, q3_h_1, r3_h_1, q3_h_2, r3_h_2, z3_h, q3_h_1_0, r3_h_1_0, z3_h_1]
  have z4_h : w.heap.size < w4.heap.size := kz4 _ (by first | assumption | (simp; done) | (simp; omega) | omega)
  have q4_h_1_0 : w4.cell? ⟨w.heap.size + 1, 0, none⟩ = some (.int .i64 m) := by rw [kc4 _ _ (by first | assumption | (simp; done) | (simp; omega) | omega)]; simp [go_sem, q3_h_0, r3_h_0, q3_h_1, r3_h_1, q3_h_2, r3_h_2, z3_h, q3_h_1_0, r3_h_1_0, z3_h_1]
  have r4_h_1_0 : w4.frozen? ⟨w.heap.size + 1, 0, none⟩ = false := by rw [kf4 _ _ (by first | assumption | (simp; done) | (simp; omega) | omega)]; simp [go_sem, q3_h_0, r3_h_0, q3_h_1, r3_h_1, q3_h_2, r3_h_2, z3_h, q3_h_1_0, r3_h_1_0, z3_h_1]
  have z4_h_1 : w.heap.size + 1 < w4.heap.size := kz4 _ (by first | assumption | (simp; done) | (simp; omega) | omega)
  clear kc4 kf4 kz4 ky4 kx4 kv4 ku4 hb4 q3_h_0 r3_h_0 q3_h_1 r3_h_1 q3_h_2 r3_h_2 z3_h q3_h_1_0 r3_h_1_0 z3_h_1
  (go_wp2_with fail; refine (isOf_impl _ _ _ _ _ _ _ _).mono ?_; rintro e w5 ⟨rfl, hb5⟩; rw [h]; (have ha5 : Below w.heap.size w w5 := by (repeat (first | with_reducible exact Below.refl _ _ | with_reducible assumption | with_reducible refine balloc ?_ _ | with_reducible refine bdrew ?_ | with_reducible refine below_drewN ?_ _ | with_reducible refine bset ?_ ?_ _ | with_reducible exact Nat.le_refl _ | with_reducible refine bsize ?_ | (dsimp only; refine Nat.le_trans ?_ (Nat.le_add_right _ _)) | with_reducible refine Nat.le_trans ?_ (Nat.le_add_right _ _) | (with_reducible refine bstep ?_ (by assumption))))); obtain ⟨kc5, kf5, kz5, ky5, kx5, kv5, ku5⟩ := bcell hb5)
  have fA5 := fA4.later hb5
  have fB5 := fB4.later hb5
  clear fA4 fB4
  have q5_h_0 : w5.cell? ⟨w.heap.size, 0, none⟩ = some (.int .i64 4) := by rw [kc5 _ _ (by first | assumption | (simp; done) | (simp; omega) | omega)]; simp [go_sem, q4_h_0, r4_h_0, q4_h_1, r4_h_1, q4_h_2, r4_h_2, z4_h, q4_h_1_0, r4_h_1_0, z4_h_1]
  have r5_h_0 : w5.frozen? ⟨w.heap.size, 0, none⟩ = false := by rw [kf5 _ _ (by first | assumption | (simp; done) | (simp; omega) | omega)]; simp [go_sem, q4_h_0, r4_h_0, q4_h_1, r4_h_1, q4_h_2, r4_h_2, z4_h, q4_h_1_0, r4_h_1_0, z4_h_1]
  have q5_h_1 : w5.cell? ⟨w.heap.size, 1, none⟩ = some (.int .i64 a) := by rw [kc5 _ _ (by first | assumption | (simp; done) | (simp; omega) | omega)]; simp [go_sem, q4_h_0, r4_h_0, q4_h_1, r4_h_1, q4_h_2, r4_h_2, z4_h, q4_h_1_0, r4_h_1_0, z4_h_1]
  have r5_h_1 : w5.frozen? ⟨w.heap.size, 1, none⟩ = false := by rw [kf5 _ _ (by first | assumption | (simp; done) | (simp; omega) | omega)]; simp [go_sem, q4_h_0, r4_h_0, q4_h_1, r4_h_1, q4_h_2, r4_h_2, z4_h, q4_h_1_0, r4_h_1_0, z4_h_1]
  have q5_h_2 : w5.cell? ⟨w.heap.size, 2, none⟩ = some (.int .i64 b) := by rw [kc5 _ _ (by first | assumption | (simp; done) | (simp; omega) | omega)]; simp [go_sem, q4_h_0, r4_h_0, q4_h_1, r4_h_1, q4_h_2, r4_h_2, z4_h, q4_h_1_0, r4_h_1_0, z4_h_1]
  have r5_h_2 : w5.frozen? ⟨w.heap.size, 2, none⟩ = false := by rw [kf5 _ _ (by first | assumption | (simp; done) | (simp; omega) | omega)]; simp [go_sem, q4_h_0, r4_h_0, q4_h_1, r4_h_1, q4_h_2, r4_h_2, z4_h, q4_h_1_0, r4_h_1_0, z4_h_1]
  have z5_h : w.heap.size < w5.heap.size := kz5 _ (by first | assumption | (simp; done) | (simp; omega) | omega)
  have q5_h_1_0 : w5.cell? ⟨w.heap.size + 1, 0, none⟩ = some (.int .i64 m) := by rw [kc5 _ _ (by first | assumption | (simp; done) | (simp; omega) | omega)]; simp [go_sem, q4_h_0, r4_h_0, q4_h_1, r4_h_1, q4_h_2, r4_h_2, z4_h, q4_h_1_0, r4_h_1_0, z4_h_1]
  have r5_h_1_0 : w5.frozen? ⟨w.heap.size + 1, 0, none⟩ = false := by rw [kf5 _ _ (by first | assumption | (simp; done) | (simp; omega) | omega)]; simp [go_sem, q4_h_0, r4_h_0, q4_h_1, r4_h_1, q4_h_2, r4_h_2, z4_h, q4_h_1_0, r4_h_1_0, z4_h_1]
  have z5_h_1 : w.heap.size + 1 < w5.heap.size := kz5 _ (by first | assumption | (simp; done) | (simp; omega) | omega)
  clear kc5 kf5 kz5 ky5 kx5 kv5 ku5 hb5 q4_h_0 r4_h_0 q4_h_1 r4_h_1 q4_h_2 r4_h_2 z4_h q4_h_1_0 r4_h_1_0 z4_h_1
  go_wp2
  go_ret
  exact ⟨_, rfl, ⟨w.heap.size, w.heap.size + 1, fA5, fB5, rfl⟩, by (repeat (first | with_reducible exact Below.refl _ _ | with_reducible assumption | with_reducible refine balloc ?_ _ | with_reducible refine bdrew ?_ | with_reducible refine below_drewN ?_ _ | with_reducible refine bset ?_ ?_ _ | with_reducible exact Nat.le_refl _ | with_reducible refine bsize ?_ | (dsimp only; refine Nat.le_trans ?_ (Nat.le_add_right _ _)) | with_reducible refine Nat.le_trans ?_ (Nat.le_add_right _ _) | (with_reducible refine bstep ?_ (by assumption))))⟩
set_option maxHeartbeats 3200000 in
theorem tr_yes_5 (m a b : Int) (hm : 1 ≤ m ∧ m ≤ 10) (h : ofB 5 a b 5 1 m 0 = true) (w : World) :
    Calls Try.prog 55 #[.agg #[.int .i64 5, .int .i64 a, .int .i64 b], .int .i64 m] w fun e w' => ∃ v, e = .returned v ∧ TrialAt m ⟨5, a, b⟩ v w' ∧ Below w.heap.size w w' := by
  have hmf : ∀ (fn : Fn) (first cap : Array Value) (w : World), (Instr.makeFunc fn first cap).run Try.prog w = .ok (.func fn first cap) w := fun _ _ _ _ => rfl
  have n0 : ofB 5 a b 0 1 (m - 1) 0 = false := ofB_ne (by decide)
  have n1 : ofB 5 a b 1 1 (m - 1) 0 = false := ofB_ne (by decide)
  have n2 : ofB 5 a b 2 0 (m - 1) 0 = false := ofB_ne (by decide)
  have n3 : ofB 5 a b 3 1 m (m - 1) = false := ofB_ne (by decide)
  have n4 : ofB 5 a b 4 1 m 0 = false := ofB_ne (by decide)
  go_enter Try.func55, Try.ntmps55
  (go_wp2_with fail; refine (isOf_impl _ _ _ _ _ _ _ _).mono ?_; rintro e w1 ⟨rfl, hb1⟩; rw [n0]; (have ha1 : Below w.heap.size w w1 := by (repeat (first | with_reducible exact Below.refl _ _ | with_reducible assumption | with_reducible refine balloc ?_ _ | with_reducible refine bdrew ?_ | with_reducible refine below_drewN ?_ _ | with_reducible refine bset ?_ ?_ _ | with_reducible exact Nat.le_refl _ | with_reducible refine bsize ?_ | (dsimp only; refine Nat.le_trans ?_ (Nat.le_add_right _ _)) | with_reducible refine Nat.le_trans ?_ (Nat.le_add_right _ _) | (with_reducible refine bstep ?_ (by assumption))))); obtain ⟨kc1, kf1, kz1, ky1, kx1, kv1, ku1⟩ := bcell hb1)
  have fA1 : Blk w.heap.size #[.int .i64 5, .int .i64 a, .int .i64 b] 27 w1 := ((Blk.new w _ _).alloc _).later hb1
  have fB1 : Blk (w.heap.size + 1) #[.int .i64 m] 3 w1 := Blk.later (by have h := Blk.new (w.alloc (.cells #[.int .i64 5, .int .i64 a, .int .i64 b] 27)) #[.int .i64 m] 3; rw [World.size_alloc] at h; exact h) hb1
  have q1_h_0 : w1.cell? ⟨w.heap.size, 0, none⟩ = some (.int .i64 5) := by rw [kc1 _ _ (by first | assumption | (simp; done) | (simp; omega) | omega)]; simp [go_sem]
  have r1_h_0 : w1.frozen? ⟨w.heap.size, 0, none⟩ = false := by rw [kf1 _ _ (by first | assumption | (simp; done) | (simp; omega) | omega)]; simp [go_sem]
  have q1_h_1 : w1.cell? ⟨w.heap.size, 1, none⟩ = some (.int .i64 a) := by rw [kc1 _ _ (by first | assumption | (simp; done) | (simp; omega) | omega)]; simp [go_sem]
  have r1_h_1 : w1.frozen? ⟨w.heap.size, 1, none⟩ = false := by rw [kf1 _ _ (by first | assumption | (simp; done) | (simp; omega) | omega)]; simp [go_sem]
  have q1_h_2 : w1.cell? ⟨w.heap.size, 2, none⟩ = some (.int .i64 b) := by rw [kc1 _ _ (by first | assumption | (simp; done) | (simp; omega) | omega)]; simp [go_sem]
  have r1_h_2 : w1.frozen? ⟨w.heap.size, 2, none⟩ = false := by rw [kf1 _ _ (by first | assumption | (simp; done) | (simp; omega) | omega)]; simp [go_sem]
  have z1_h : w.heap.size < w1.heap.size := kz1 _ (by first | assumption | (simp; done) | (simp; omega) | omega)
  have q1_h_1_0 : w1.cell? ⟨w.heap.size + 1, 0, none⟩ = some (.int .i64 m) := by rw [kc1 _ _ (by first | assumption | (simp; done) | (simp; omega) | omega)]; simp [go_sem]
  have r1_h_1_0 : w1.frozen? ⟨w.heap.size + 1, 0, none⟩ = false := by rw [kf1 _ _ (by first | assumption | (simp; done) | (simp; omega) | omega)]; simp [go_sem]
  have z1_h_1 : w.heap.size + 1 < w1.heap.size := kz1 _ (by first | assumption | (simp; done) | (simp; omega) | omega)
  clear kc1 kf1 kz1 ky1 kx1 kv1 ku1 hb1
  (go_wp2_with fail; refine (isOf_impl _ _ _ _ _ _ _ _).mono ?_; rintro e w2 ⟨rfl, hb2⟩; rw [n1]; (have ha2 : Below w.heap.size w w2 := by (repeat (first | with_reducible exact Below.refl _ _ | with_reducible assumption | with_reducible refine balloc ?_ _ | with_reducible refine bdrew ?_ | with_reducible refine below_drewN ?_ _ | with_reducible refine bset ?_ ?_ _ | with_reducible exact Nat.le_refl _ | with_reducible refine bsize ?_ | (dsimp only; refine Nat.le_trans ?_ (Nat.le_add_right _ _)) | with_reducible refine Nat.le_trans ?_ (Nat.le_add_right _ _) | (with_reducible refine bstep ?_ (by assumption))))); obtain ⟨kc2, kf2, kz2, ky2, kx2, kv2, ku2⟩ := bcell hb2)
  have fA2 := fA1.later hb2
  have fB2 := fB1.later hb2
  clear fA1 fB1
  have q2_h_0 : w2.cell? ⟨w.heap.size, 0, none⟩ = some (.int .i64 5) := by rw [kc2 _ _ (by first | assumption | (simp; done) | (simp; omega) | omega)]; simp [go_sem, q1_h_0, r1_h_0, q1_h_1, r1_h_1, q1_h_2, r1_h_2, z1_h, q1_h_1_0, r1_h_1_0, z1_h_1]
  have r2_h_0 : w2.frozen? ⟨w.heap.size, 0, none⟩ = false := by rw [kf2 _ _ (by first | assumption | (simp; done) | (simp; omega) | omega)]; simp [go_sem, q1_h_0, r1_h_0, q1_h_1, r1_h_1, q1_h_2, r1_h_2, z1_h, q1_h_1_0, r1_h_1_0, z1_h_1]
  have q2_h_1 : w2.cell? ⟨w.heap.size, 1, none⟩ = some (.int .i64 a) := by rw [kc2 _ _ (by first | assumption | (simp; done) | (simp; omega) | omega)]; simp [go_sem, q1_h_0, r1_h_0, q1_h_1, r1_h_1, q1_h_2, r1_h_2, z1_h, q1_h_1_0, r1_h_1_0, z1_h_1]
  have r2_h_1 : w2.frozen? ⟨w.heap.size, 1, none⟩ = false := by rw [kf2 _ _ (by first | assumption | (simp; done) | (simp; omega) | omega)]; simp [go_sem, q1_h_0, r1_h_0, q1_h_1, r1_h_1, q1_h_2, r1_h_2, z1_h, q1_h_1_0, r1_h_1_0, z1_h_1]
  have q2_h_2 : w2.cell? ⟨w.heap.size, 2, none⟩ = some (.int .i64 b) := by rw [kc2 _ _ (by first | assumption | (simp; done) | (simp; omega) | omega)]; simp [go_sem, q1_h_0, r1_h_0, q1_h_1, r1_h_1, q1_h_2, r1_h_2, z1_h, q1_h_1_0, r1_h_1_0, z1_h_1]
  have r2_h_2 : w2.frozen? ⟨w.heap.size, 2, none⟩ = false := by rw [kf2 _ _ (by first | assumption | (simp; done) | (simp; omega) | omega)]; simp [go_sem, q1_h_0, r1_h_0, q1_h_1, r1_h_1, q1_h_2, r1_h_2, z1_h, q1_h_1_0, r1_h_1_0, z1_h_1]
  have z2_h : w.heap.size < w2.heap.size := kz2 _ (by first | assumption | (simp; done) | (simp; omega) | omega)
  have q2_h_1_0 : w2.cell? ⟨w.heap.size + 1, 0, none⟩ = some (.int .i64 m) := by rw [kc2 _ _ (by first | assumption | (simp; done) | (simp; omega) | omega)]; simp [go_sem, q1_h_0, r1_h_0, q1_h_1, r1_h_1, q1_h_2, r1_h_2, z1_h, q1_h_1_0, r1_h_1_0, z1_h_1]
  have r2_h_1_0 : w2.frozen? ⟨w.heap.size + 1, 0, none⟩ = false := by rw [kf2 _ _ (by first | assumption | (simp; done) | (simp; omega) | omega)]; simp [go_sem, q1_h_0, r1_h_0, q1_h_1, r1_h_1, q1_h_2, r1_h_2, z1_h, q1_h_1_0, r1_h_1_0, z1_h_1]
  have z2_h_1 : w.heap.size + 1 < w2.heap.size := kz2 _ (by first | assumption | (simp; done) | (simp; omega) | omega)
  clear kc2 kf2 kz2 ky2 kx2 kv2 ku2 hb2 q1_h_0 r1_h_0 q1_h_1 r1_h_1 q1_h_2 r1_h_2 z1_h q1_h_1_0 r1_h_1_0 z1_h_1
  (go_wp2_with fail; refine (isOf_impl _ _ _ _ _ _ _ _).mono ?_; rintro e w3 ⟨rfl, hb3⟩; rw [n2]; (have ha3 : Below w.heap.size w w3 := by (repeat (first | with_reducible exact Below.refl _ _ | with_reducible assumption | with_reducible refine balloc ?_ _ | with_reducible refine bdrew ?_ | with_reducible refine below_drewN ?_ _ | with_reducible refine bset ?_ ?_ _ | with_reducible exact Nat.le_refl _ | with_reducible refine bsize ?_ | (dsimp only; refine Nat.le_trans ?_ (Nat.le_add_right _ _)) | with_reducible refine Nat.le_trans ?_ (Nat.le_add_right _ _) | (with_reducible refine bstep ?_ (by assumption))))); obtain ⟨kc3, kf3, kz3, ky3, kx3, kv3, ku3⟩ := bcell hb3)
  have fA3 := fA2.later hb3
  have fB3 := fB2.later hb3
  clear fA2 fB2
  have q3_h_0 : w3.cell? ⟨w.heap.size, 0, none⟩ = some (.int .i64 5) := by rw [kc3 _ _ (by first | assumption | (simp; done) | (simp; omega) | omega)]; simp [go_sem, q2_h_0, r2_h_0, q2_h_1, r2_h_1, q2_h_2, r2_h_2, z2_h, q2_h_1_0, r2_h_1_0, z2_h_1]
  have r3_h_0 : w3.frozen? ⟨w.heap.size, 0, none⟩ = false := by rw [kf3 _ _ (by first | assumption | (simp; done) | (simp; omega) | omega)]; simp [go_sem, q2_h_0, r2_h_0, q2_h_1, r2_h_1, q2_h_2, r2_h_2, z2_h, q2_h_1_0, r2_h_1_0, z2_h_1]
  have q3_h_1 : w3.cell? ⟨w.heap.size, 1, none⟩ = some (.int .i64 a) := by rw [kc3 _ _ (by first | assumption | (simp; done) | (simp; omega) | omega)]; simp [go_sem, q2_h_0, r2_h_0, q2_h_1, r2_h_1, q2_h_2, r2_h_2, z2_h, q2_h_1_0, r2_h_1_0, z2_h_1]
  have r3_h_1 : w3.frozen? ⟨w.heap.size, 1, none⟩ = false := by rw [kf3 _ _ (by first | assumption | (simp; done) | (simp; omega) | omega)]; simp [go_sem, q2_h_0, r2_h_0, q2_h_1, r2_h_1, q2_h_2, r2_h_2, z2_h, q2_h_1_0, r2_h_1_0, z2_h_1]
  have q3_h_2 : w3.cell? ⟨w.heap.size, 2, none⟩ = some (.int .i64 b) := by rw [kc3 _ _ (by first | assumption | (simp; done) | (simp; omega) | omega)]; simp [go_sem, q2_h_0, r2_h_0, q2_h_1, r2_h_1, q2_h_2, r2_h_2, z2_h, q2_h_1_0, r2_h_1_0, z2_h_1]
  have r3_h_2 : w3.frozen? ⟨w.heap.size, 2, none⟩ = false := by rw [kf3 _ _ (by first | assumption | (simp; done) | (simp; omega) | omega)]; simp [go_sem, q2_h_0, r2_h_0, q2_h_1, r2_h_1, q2_h_2, r2_h_2, z2_h, q2_h_1_0, r2_h_1_0, z2_h_1]
  have z3_h : w.heap.size < w3.heap.size := kz3 _ (by first | assumption | (simp; done) | (simp; omega) | omega)
  have q3_h_1_0 : w3.cell? ⟨w.heap.size + 1, 0, none⟩ = some (.int .i64 m) := by rw [kc3 _ _ (by first | assumption | (simp; done) | (simp; omega) | omega)]; simp [go_sem, q2_h_0, r2_h_0, q2_h_1, r2_h_1, q2_h_2, r2_h_2, z2_h, q2_h_1_0, r2_h_1_0, z2_h_1]
  have r3_h_1_0 : w3.frozen? ⟨w.heap.size + 1, 0, none⟩ = false := by rw [kf3 _ _ (by first | assumption | (simp; done) | (simp; omega) | omega)]; simp [go_sem, q2_h_0, r2_h_0, q2_h_1, r2_h_1, q2_h_2, r2_h_2, z2_h, q2_h_1_0, r2_h_1_0, z2_h_1]
  have z3_h_1 : w.heap.size + 1 < w3.heap.size := kz3 _ (by first | assumption | (simp; done) | (simp; omega) | omega)
  clear kc3 kf3 kz3 ky3 kx3 kv3 ku3 hb3 q2_h_0 r2_h_0 q2_h_1 r2_h_1 q2_h_2 r2_h_2 z2_h q2_h_1_0 r2_h_1_0 z2_h_1
  (go_wp2_with fail; refine (isOf_impl _ _ _ _ _ _ _ _).mono ?_; rintro e w4 ⟨rfl, hb4⟩; rw [n3]; (have ha4 : Below w.heap.size w w4 := by (repeat (first | with_reducible exact Below.refl _ _ | with_reducible assumption | with_reducible refine balloc ?_ _ | with_reducible refine bdrew ?_ | with_reducible refine below_drewN ?_ _ | with_reducible refine bset ?_ ?_ _ | with_reducible exact Nat.le_refl _ | with_reducible refine bsize ?_ | (dsimp only; refine Nat.le_trans ?_ (Nat.le_add_right _ _)) | with_reducible refine Nat.le_trans ?_ (Nat.le_add_right _ _) | (with_reducible refine bstep ?_ (by assumption))))); obtain ⟨kc4, kf4, kz4, ky4, kx4, kv4, ku4⟩ := bcell hb4)
  have fA4 := fA3.later hb4
  have fB4 := fB3.later hb4
  clear fA3 fB3
  have q4_h_0 : w4.cell? ⟨w.heap.size, 0, none⟩ = some (.int .i64 5) := by rw [kc4 _ _ (by first | assumption | (simp; done) | (simp; omega) | omega)]; simp [go_sem, q3_h_0, r3_h_0, q3_h_1, r3_h_1, q3_h_2, r3_h_2, z3_h, q3_h_1_0, r3_h_1_0, z3_h_1]
  have r4_h_0 : w4.frozen? ⟨w.heap.size, 0, none⟩ = false := by rw [kf4 _ _ (by first | assumption | (simp; done) | (simp; omega) | omega)]; simp [go_sem, q3_h_0, r3_h_0, q3_h_1, r3_h_1, q3_h_2, r3_h_2, z3_h, q3_h_1_0, r3_h_1_0, z3_h_1]
  have q4_h_1 : w4.cell? ⟨w.heap.size, 1, none⟩ = some (.int .i64 a) := by rw [kc4 _ _ (by first | assumption | (simp; done) | (simp; omega) | omega)]; simp [go_sem, q3_h_0, r3_h_0, q3_h_1, r3_h_1, q3_h_2, r3_h_2, z3_h, q3_h_1_0, r3_h_1_0, z3_h_1]
  have r4_h_1 : w4.frozen? ⟨w.heap.size, 1, none⟩ = false := by rw [kf4 _ _ (by first | assumption | (simp; done) | (simp; omega) | omega)]; simp [go_sem, q3_h_0, r3_h_0, q3_h_1, r3_h_1, q3_h_2, r3_h_2, z3_h, q3_h_1_0, r3_h_1_0, z3_h_1]
  have q4_h_2 : w4.cell? ⟨w.heap.size, 2, none⟩ = some (.int .i64 b) := by rw [kc4 _ _ (by first | assumption | (simp; done) | (simp; omega) | omega)]; simp [go_sem, q3_h_0, r3_h_0, q3_h_1, r3_h_1, q3_h_2, r3_h_2, z3_h, q3_h_1_0, r3_h_1_0, z3_h_1]
  have r4_h_2 : w4.frozen? ⟨w.heap.size, 2, none⟩ = false := by rw [kf4 _ _ (by first | assumption | (simp; done) | (simp; omega) | omega)]; simp [go_sem, q3_h_0, r3_h_0, q3_h_1, r3_h_1, q3_h_2, r3_h_2, z3_h, q3_h_1_0, r3_h_1_0, z3_h_1]
  have z4_h : w.heap.size < w4.heap.size := kz4 _ (by first | assumption | (simp; done) | (simp; omega) | omega)
  have q4_h_1_0 : w4.cell? ⟨w.heap.size + 1, 0, none⟩ = some (.int .i64 m) := by rw [kc4 _ _ (by first | assumption | (simp; done) | (simp; omega) | omega)]; simp [go_sem, q3_h_0, r3_h_0, q3_h_1, r3_h_1, q3_h_2, r3_h_2, z3_h, q3_h_1_0, r3_h_1_0, z3_h_1]
  have r4_h_1_0 : w4.frozen? ⟨w.heap.size + 1, 0, none⟩ = false := by rw [kf4 _ _ (by first | assumption | (simp; done) | (simp; omega) | omega)]; simp [go_sem, q3_h_0, r3_h_0, q3_h_1, r3_h_1, q3_h_2, r3_h_2, z3_h, q3_h_1_0, r3_h_1_0, z3_h_1]
  have z4_h_1 : w.heap.size + 1 < w4.heap.size := kz4 _ (by first | assumption | (simp; done) | (simp; omega) | omega)
  clear kc4 kf4 kz4 ky4 kx4 kv4 ku4 hb4 q3_h_0 r3_h_0 q3_h_1 r3_h_1 q3_h_2 r3_h_2 z3_h q3_h_1_0 r3_h_1_0 z3_h_1
  (go_wp2_with fail; refine (isOf_impl _ _ _ _ _ _ _ _).mono ?_; rintro e w5 ⟨rfl, hb5⟩; rw [n4]; (have ha5 : Below w.heap.size w w5 := by (repeat (first | with_reducible exact Below.refl _ _ | with_reducible assumption | with_reducible refine balloc ?_ _ | with_reducible refine bdrew ?_ | with_reducible refine below_drewN ?_ _ | with_reducible refine bset ?_ ?_ _ | with_reducible exact Nat.le_refl _ | with_reducible refine bsize ?_ | (dsimp only; refine Nat.le_trans ?_ (Nat.le_add_right _ _)) | with_reducible refine Nat.le_trans ?_ (Nat.le_add_right _ _) | (with_reducible refine bstep ?_ (by assumption))))); obtain ⟨kc5, kf5, kz5, ky5, kx5, kv5, ku5⟩ := bcell hb5)
  have fA5 := fA4.later hb5
  have fB5 := fB4.later hb5
  clear fA4 fB4
  have q5_h_0 : w5.cell? ⟨w.heap.size, 0, none⟩ = some (.int .i64 5) := by rw [kc5 _ _ (by first | assumption | (simp; done) | (simp; omega) | omega)]; simp [go_sem, q4_h_0, r4_h_0, q4_h_1, r4_h_1, q4_h_2, r4_h_2, z4_h, q4_h_1_0, r4_h_1_0, z4_h_1]
  have r5_h_0 : w5.frozen? ⟨w.heap.size, 0, none⟩ = false := by rw [kf5 _ _ (by first | assumption | (simp; done) | (simp; omega) | omega)]; simp [go_sem, q4_h_0, r4_h_0, q4_h_1, r4_h_1, q4_h_2, r4_h_2, z4_h, q4_h_1_0, r4_h_1_0, z4_h_1]
  have q5_h_1 : w5.cell? ⟨w.heap.size, 1, none⟩ = some (.int .i64 a) := by rw [kc5 _ _ (by first | assumption | (simp; done) | (simp; omega) | omega)]; simp [go_sem, q4_h_0, r4_h_0, q4_h_1, r4_h_1, q4_h_2, r4_h_2, z4_h, q4_h_1_0, r4_h_1_0, z4_h_1]
  have r5_h_1 : w5.frozen? ⟨w.heap.size, 1, none⟩ = false := by rw [kf5 _ _ (by first | assumption | (simp; done) | (simp; omega) | omega)]; simp [go_sem, q4_h_0, r4_h_0, q4_h_1, r4_h_1, q4_h_2, r4_h_2, z4_h, q4_h_1_0, r4_h_1_0, z4_h_1]
  have q5_h_2 : w5.cell? ⟨w.heap.size, 2, none⟩ = some (.int .i64 b) := by rw [kc5 _ _ (by first | assumption | (simp; done) | (simp; omega) | omega)]; simp [go_sem, q4_h_0, r4_h_0, q4_h_1, r4_h_1, q4_h_2, r4_h_2, z4_h, q4_h_1_0, r4_h_1_0, z4_h_1]
  have r5_h_2 : w5.frozen? ⟨w.heap.size, 2, none⟩ = false := by rw [kf5 _ _ (by first | assumption | (simp; done) | (simp; omega) | omega)]; simp [go_sem, q4_h_0, r4_h_0, q4_h_1, r4_h_1, q4_h_2, r4_h_2, z4_h, q4_h_1_0, r4_h_1_0, z4_h_1]
  have z5_h : w.heap.size < w5.heap.size := kz5 _ (by first | assumption | (simp; done) | (simp; omega) | omega)
  have q5_h_1_0 : w5.cell? ⟨w.heap.size + 1, 0, none⟩ = some (.int .i64 m) := by rw [kc5 _ _ (by first | assumption | (simp; done) | (simp; omega) | omega)]; simp [go_sem, q4_h_0, r4_h_0, q4_h_1, r4_h_1, q4_h_2, r4_h_2, z4_h, q4_h_1_0, r4_h_1_0, z4_h_1]
  have r5_h_1_0 : w5.frozen? ⟨w.heap.size + 1, 0, none⟩ = false := by rw [kf5 _ _ (by first | assumption | (simp; done) | (simp; omega) | omega)]; simp [go_sem, q4_h_0, r4_h_0, q4_h_1, r4_h_1, q4_h_2, r4_h_2, z4_h, q4_h_1_0, r4_h_1_0, z4_h_1]
  have z5_h_1 : w.heap.size + 1 < w5.heap.size := kz5 _ (by first | assumption | (simp; done) | (simp; omega) | omega)
  clear kc5 kf5 kz5 ky5 kx5 kv5 ku5 hb5 q4_h_0 r4_h_0 q4_h_1 r4_h_1 q4_h_2 r4_h_2 z4_h q4_h_1_0 r4_h_1_0 z4_h_1
  (go_wp2_with fail; refine (isOf_impl _ _ _ _ _ _ _ _).mono ?_; rintro e w6 ⟨rfl, hb6⟩; rw [h]; (have ha6 : Below w.heap.size w w6 := by (repeat (first | with_reducible exact Below.refl _ _ | with_reducible assumption | with_reducible refine balloc ?_ _ | with_reducible refine bdrew ?_ | with_reducible refine below_drewN ?_ _ | with_reducible refine bset ?_ ?_ _ | with_reducible exact Nat.le_refl _ | with_reducible refine bsize ?_ | (dsimp only; refine Nat.le_trans ?_ (Nat.le_add_right _ _)) | with_reducible refine Nat.le_trans ?_ (Nat.le_add_right _ _) | (with_reducible refine bstep ?_ (by assumption))))); obtain ⟨kc6, kf6, kz6, ky6, kx6, kv6, ku6⟩ := bcell hb6)
  have fA6 := fA5.later hb6
  have fB6 := fB5.later hb6
  clear fA5 fB5
  have q6_h_0 : w6.cell? ⟨w.heap.size, 0, none⟩ = some (.int .i64 5) := by rw [kc6 _ _ (by first | assumption | (simp; done) | (simp; omega) | omega)]; simp [go_sem, q5_h_0, r5_h_0, q5_h_1, r5_h_1, q5_h_2, r5_h_2, z5_h, q5_h_1_0, r5_h_1_0, z5_h_1]
  have r6_h_0 : w6.frozen? ⟨w.heap.size, 0, none⟩ = false := by rw [kf6 _ _ (by first | assumption | (simp; done) | (simp; omega) | omega)]; simp [go_sem, q5_h_0, r5_h_0, q5_h_1, r5_h_1, q5_h_2, r5_h_2, z5_h, q5_h_1_0, r5_h_1_0, z5_h_1]
  have q6_h_1 : w6.cell? ⟨w.heap.size, 1, none⟩ = some (.int .i64 a) := by rw [kc6 _ _ (by first | assumption | (simp; done) | (simp; omega) | omega)]; simp [go_sem, q5_h_0, r5_h_0, q5_h_1, r5_h_1, q5_h_2, r5_h_2, z5_h, q5_h_1_0, r5_h_1_0, z5_h_1]
  have r6_h_1 : w6.frozen? ⟨w.heap.size, 1, none⟩ = false := by rw [kf6 _ _ (by first | assumption | (simp; done) | (simp; omega) | omega)]; simp [go_sem, q5_h_0, r5_h_0, q5_h_1, r5_h_1, q5_h_2, r5_h_2, z5_h, q5_h_1_0, r5_h_1_0, z5_h_1]
  have q6_h_2 : w6.cell? ⟨w.heap.size, 2, none⟩ = some (.int .i64 b) := by rw [kc6 _ _ (by first | assumption | (simp; done) | (simp; omega) | omega)]; simp [go_sem, q5_h_0, r5_h_0, q5_h_1, r5_h_1, q5_h_2, r5_h_2, z5_h, q5_h_1_0, r5_h_1_0, z5_h_1]
  have r6_h_2 : w6.frozen? ⟨w.heap.size, 2, none⟩ = false := by rw [kf6 _ _ (by first | assumption | (simp; done) | (simp; omega) | omega)]; simp [go_sem, q5_h_0, r5_h_0, q5_h_1, r5_h_1, q5_h_2, r5_h_2, z5_h, q5_h_1_0, r5_h_1_0, z5_h_1]
  have z6_h : w.heap.size < w6.heap.size := kz6 _ (by first | assumption | (simp; done) | (simp; omega) | omega)
  have q6_h_1_0 : w6.cell? ⟨w.heap.size + 1, 0, none⟩ = some (.int .i64 m) := by rw [kc6 _ _ (by first | assumption | (simp; done) | (simp; omega) | omega)]; simp [go_sem, q5_h_0, r5_h_0, q5_h_1, r5_h_1, q5_h_2, r5_h_2, z5_h, q5_h_1_0, r5_h_1_0, z5_h_1]
  have r6_h_1_0 : w6.frozen? ⟨w.heap.size + 1, 0, none⟩ = false := by rw [kf6 _ _ (by first | assumption | (simp; done) | (simp; omega) | omega)]; simp [go_sem, q5_h_0, r5_h_0, q5_h_1, r5_h_1, q5_h_2, r5_h_2, z5_h, q5_h_1_0, r5_h_1_0, z5_h_1]
  have z6_h_1 : w.heap.size + 1 < w6.heap.size := kz6 _ (by first | assumption | (simp; done) | (simp; omega) | omega)
  clear kc6 kf6 kz6 ky6 kx6 kv6 ku6 hb6 q5_h_0 r5_h_0 q5_h_1 r5_h_1 q5_h_2 r5_h_2 z5_h q5_h_1_0 r5_h_1_0 z5_h_1
  go_wp2
  go_ret
  exact ⟨_, rfl, ⟨w.heap.size, w.heap.size + 1, fA6, fB6, rfl⟩, by (repeat (first | with_reducible exact Below.refl _ _ | with_reducible assumption | with_reducible refine balloc ?_ _ | with_reducible refine bdrew ?_ | with_reducible refine below_drewN ?_ _ | with_reducible refine bset ?_ ?_ _ | with_reducible exact Nat.le_refl _ | with_reducible refine bsize ?_ | (dsimp only; refine Nat.le_trans ?_ (Nat.le_add_right _ _)) | with_reducible refine Nat.le_trans ?_ (Nat.le_add_right _ _) | (with_reducible refine bstep ?_ (by assumption))))⟩
set_option maxHeartbeats 3200000 in
theorem tr_no (m k a b : Int) (hm : 1 ≤ m ∧ m ≤ 10) (h : clB m k a b = false) (w : World) :
    Calls Try.prog 55 #[.agg #[.int .i64 k, .int .i64 a, .int .i64 b], .int .i64 m] w fun e w' => e = .panicked [{ v := .iface 27 (.agg #[.int .i64 k, .int .i64 a, .int .i64 b]), recovered := false }] ∧ Below w.heap.size w w' := by
  have hmf : ∀ (fn : Fn) (first cap : Array Value) (w : World), (Instr.makeFunc fn first cap).run Try.prog w = .ok (.func fn first cap) w := fun _ _ _ _ => rfl
  simp only [clB, Bool.or_eq_false_iff] at h
  obtain ⟨⟨⟨⟨⟨n0, n1⟩, n2⟩, n3⟩, n4⟩, n5⟩ := h
  go_enter Try.func55, Try.ntmps55
  (go_wp2_with fail; refine (isOf_impl _ _ _ _ _ _ _ _).mono ?_; rintro e w1 ⟨rfl, hb1⟩; rw [n0]; (have ha1 : Below w.heap.size w w1 := by (repeat (first | with_reducible exact Below.refl _ _ | with_reducible assumption | with_reducible refine balloc ?_ _ | with_reducible refine bdrew ?_ | with_reducible refine below_drewN ?_ _ | with_reducible refine bset ?_ ?_ _ | with_reducible exact Nat.le_refl _ | with_reducible refine bsize ?_ | (dsimp only; refine Nat.le_trans ?_ (Nat.le_add_right _ _)) | with_reducible refine Nat.le_trans ?_ (Nat.le_add_right _ _) | (with_reducible refine bstep ?_ (by assumption))))); obtain ⟨kc1, kf1, kz1, ky1, kx1, kv1, ku1⟩ := bcell hb1)
  have q1_h_0 : w1.cell? ⟨w.heap.size, 0, none⟩ = some (.int .i64 k) := by rw [kc1 _ _ (by first | assumption | (simp; done) | (simp; omega) | omega)]; simp [go_sem]
  have r1_h_0 : w1.frozen? ⟨w.heap.size, 0, none⟩ = false := by rw [kf1 _ _ (by first | assumption | (simp; done) | (simp; omega) | omega)]; simp [go_sem]
  have q1_h_1 : w1.cell? ⟨w.heap.size, 1, none⟩ = some (.int .i64 a) := by rw [kc1 _ _ (by first | assumption | (simp; done) | (simp; omega) | omega)]; simp [go_sem]
  have r1_h_1 : w1.frozen? ⟨w.heap.size, 1, none⟩ = false := by rw [kf1 _ _ (by first | assumption | (simp; done) | (simp; omega) | omega)]; simp [go_sem]
  have q1_h_2 : w1.cell? ⟨w.heap.size, 2, none⟩ = some (.int .i64 b) := by rw [kc1 _ _ (by first | assumption | (simp; done) | (simp; omega) | omega)]; simp [go_sem]
  have r1_h_2 : w1.frozen? ⟨w.heap.size, 2, none⟩ = false := by rw [kf1 _ _ (by first | assumption | (simp; done) | (simp; omega) | omega)]; simp [go_sem]
  have z1_h : w.heap.size < w1.heap.size := kz1 _ (by first | assumption | (simp; done) | (simp; omega) | omega)
  have q1_h_1_0 : w1.cell? ⟨w.heap.size + 1, 0, none⟩ = some (.int .i64 m) := by rw [kc1 _ _ (by first | assumption | (simp; done) | (simp; omega) | omega)]; simp [go_sem]
  have r1_h_1_0 : w1.frozen? ⟨w.heap.size + 1, 0, none⟩ = false := by rw [kf1 _ _ (by first | assumption | (simp; done) | (simp; omega) | omega)]; simp [go_sem]
  have z1_h_1 : w.heap.size + 1 < w1.heap.size := kz1 _ (by first | assumption | (simp; done) | (simp; omega) | omega)
  clear kc1 kf1 kz1 ky1 kx1 kv1 ku1 hb1
  (go_wp2_with fail; refine (isOf_impl _ _ _ _ _ _ _ _).mono ?_; rintro e w2 ⟨rfl, hb2⟩; rw [n1]; (have ha2 : Below w.heap.size w w2 := by (repeat (first | with_reducible exact Below.refl _ _ | with_reducible assumption | with_reducible refine balloc ?_ _ | with_reducible refine bdrew ?_ | with_reducible refine below_drewN ?_ _ | with_reducible refine bset ?_ ?_ _ | with_reducible exact Nat.le_refl _ | with_reducible refine bsize ?_ | (dsimp only; refine Nat.le_trans ?_ (Nat.le_add_right _ _)) | with_reducible refine Nat.le_trans ?_ (Nat.le_add_right _ _) | (with_reducible refine bstep ?_ (by assumption))))); obtain ⟨kc2, kf2, kz2, ky2, kx2, kv2, ku2⟩ := bcell hb2)
  have q2_h_0 : w2.cell? ⟨w.heap.size, 0, none⟩ = some (.int .i64 k) := by rw [kc2 _ _ (by first | assumption | (simp; done) | (simp; omega) | omega)]; simp [go_sem, q1_h_0, r1_h_0, q1_h_1, r1_h_1, q1_h_2, r1_h_2, z1_h, q1_h_1_0, r1_h_1_0, z1_h_1]
  have r2_h_0 : w2.frozen? ⟨w.heap.size, 0, none⟩ = false := by rw [kf2 _ _ (by first | assumption | (simp; done) | (simp; omega) | omega)]; simp [go_sem, q1_h_0, r1_h_0, q1_h_1, r1_h_1, q1_h_2, r1_h_2, z1_h, q1_h_1_0, r1_h_1_0, z1_h_1]
  have q2_h_1 : w2.cell? ⟨w.heap.size, 1, none⟩ = some (.int .i64 a) := by rw [kc2 _ _ (by first | assumption | (simp; done) | (simp; omega) | omega)]; simp [go_sem, q1_h_0, r1_h_0, q1_h_1, r1_h_1, q1_h_2, r1_h_2, z1_h, q1_h_1_0, r1_h_1_0, z1_h_1]
  have r2_h_1 : w2.frozen? ⟨w.heap.size, 1, none⟩ = false := by rw [kf2 _ _ (by first | assumption | (simp; done) | (simp; omega) | omega)]; simp [go_sem, q1_h_0, r1_h_0, q1_h_1, r1_h_1, q1_h_2, r1_h_2, z1_h, q1_h_1_0, r1_h_1_0, z1_h_1]
  have q2_h_2 : w2.cell? ⟨w.heap.size, 2, none⟩ = some (.int .i64 b) := by rw [kc2 _ _ (by first | assumption | (simp; done) | (simp; omega) | omega)]; simp [go_sem, q1_h_0, r1_h_0, q1_h_1, r1_h_1, q1_h_2, r1_h_2, z1_h, q1_h_1_0, r1_h_1_0, z1_h_1]
  have r2_h_2 : w2.frozen? ⟨w.heap.size, 2, none⟩ = false := by rw [kf2 _ _ (by first | assumption | (simp; done) | (simp; omega) | omega)]; simp [go_sem, q1_h_0, r1_h_0, q1_h_1, r1_h_1, q1_h_2, r1_h_2, z1_h, q1_h_1_0, r1_h_1_0, z1_h_1]
  have z2_h : w.heap.size < w2.heap.size := kz2 _ (by first | assumption | (simp; done) | (simp; omega) | omega)
  have q2_h_1_0 : w2.cell? ⟨w.heap.size + 1, 0, none⟩ = some (.int .i64 m) := by rw [kc2 _ _ (by first | assumption | (simp; done) | (simp; omega) | omega)]; simp [go_sem, q1_h_0, r1_h_0, q1_h_1, r1_h_1, q1_h_2, r1_h_2, z1_h, q1_h_1_0, r1_h_1_0, z1_h_1]
  have r2_h_1_0 : w2.frozen? ⟨w.heap.size + 1, 0, none⟩ = false := by rw [kf2 _ _ (by first | assumption | (simp; done) | (simp; omega) | omega)]; simp [go_sem, q1_h_0, r1_h_0, q1_h_1, r1_h_1, q1_h_2, r1_h_2, z1_h, q1_h_1_0, r1_h_1_0, z1_h_1]
  have z2_h_1 : w.heap.size + 1 < w2.heap.size := kz2 _ (by first | assumption | (simp; done) | (simp; omega) | omega)
  clear kc2 kf2 kz2 ky2 kx2 kv2 ku2 hb2 q1_h_0 r1_h_0 q1_h_1 r1_h_1 q1_h_2 r1_h_2 z1_h q1_h_1_0 r1_h_1_0 z1_h_1
  (go_wp2_with fail; refine (isOf_impl _ _ _ _ _ _ _ _).mono ?_; rintro e w3 ⟨rfl, hb3⟩; rw [n2]; (have ha3 : Below w.heap.size w w3 := by (repeat (first | with_reducible exact Below.refl _ _ | with_reducible assumption | with_reducible refine balloc ?_ _ | with_reducible refine bdrew ?_ | with_reducible refine below_drewN ?_ _ | with_reducible refine bset ?_ ?_ _ | with_reducible exact Nat.le_refl _ | with_reducible refine bsize ?_ | (dsimp only; refine Nat.le_trans ?_ (Nat.le_add_right _ _)) | with_reducible refine Nat.le_trans ?_ (Nat.le_add_right _ _) | (with_reducible refine bstep ?_ (by assumption))))); obtain ⟨kc3, kf3, kz3, ky3, kx3, kv3, ku3⟩ := bcell hb3)
  have q3_h_0 : w3.cell? ⟨w.heap.size, 0, none⟩ = some (.int .i64 k) := by rw [kc3 _ _ (by first | assumption | (simp; done) | (simp; omega) | omega)]; simp [go_sem, q2_h_0, r2_h_0, q2_h_1, r2_h_1, q2_h_2, r2_h_2, z2_h, q2_h_1_0, r2_h_1_0, z2_h_1]
  have r3_h_0 : w3.frozen? ⟨w.heap.size, 0, none⟩ = false := by rw [kf3 _ _ (by first | assumption | (simp; done) | (simp; omega) | omega)]; simp [go_sem, q2_h_0, r2_h_0, q2_h_1, r2_h_1, q2_h_2, r2_h_2, z2_h, q2_h_1_0, r2_h_1_0, z2_h_1]
  have q3_h_1 : w3.cell? ⟨w.heap.size, 1, none⟩ = some (.int .i64 a) := by rw [kc3 _ _ (by first | assumption | (simp; done) | (simp; omega) | omega)]; simp [go_sem, q2_h_0, r2_h_0, q2_h_1, r2_h_1, q2_h_2, r2_h_2, z2_h, q2_h_1_0, r2_h_1_0, z2_h_1]
  have r3_h_1 : w3.frozen? ⟨w.heap.size, 1, none⟩ = false := by rw [kf3 _ _ (by first | assumption | (simp; done) | (simp; omega) | omega)]; simp [go_sem, q2_h_0, r2_h_0, q2_h_1, r2_h_1, q2_h_2, r2_h_2, z2_h, q2_h_1_0, r2_h_1_0, z2_h_1]
  have q3_h_2 : w3.cell? ⟨w.heap.size, 2, none⟩ = some (.int .i64 b) := by rw [kc3 _ _ (by first | assumption | (simp; done) | (simp; omega) | omega)]; simp [go_sem, q2_h_0, r2_h_0, q2_h_1, r2_h_1, q2_h_2, r2_h_2, z2_h, q2_h_1_0, r2_h_1_0, z2_h_1]
  have r3_h_2 : w3.frozen? ⟨w.heap.size, 2, none⟩ = false := by rw [kf3 _ _ (by first | assumption | (simp; done) | (simp; omega) | omega)]; simp [go_sem, q2_h_0, r2_h_0, q2_h_1, r2_h_1, q2_h_2, r2_h_2, z2_h, q2_h_1_0, r2_h_1_0, z2_h_1]
  have z3_h : w.heap.size < w3.heap.size := kz3 _ (by first | assumption | (simp; done) | (simp; omega) | omega)
  have q3_h_1_0 : w3.cell? ⟨w.heap.size + 1, 0, none⟩ = some (.int .i64 m) := by rw [kc3 _ _ (by first | assumption | (simp; done) | (simp; omega) | omega)]; simp [go_sem, q2_h_0, r2_h_0, q2_h_1, r2_h_1, q2_h_2, r2_h_2, z2_h, q2_h_1_0, r2_h_1_0, z2_h_1]
  have r3_h_1_0 : w3.frozen? ⟨w.heap.size + 1, 0, none⟩ = false := by rw [kf3 _ _ (by first | assumption | (simp; done) | (simp; omega) | omega)]; simp [go_sem, q2_h_0, r2_h_0, q2_h_1, r2_h_1, q2_h_2, r2_h_2, z2_h, q2_h_1_0, r2_h_1_0, z2_h_1]
  have z3_h_1 : w.heap.size + 1 < w3.heap.size := kz3 _ (by first | assumption | (simp; done) | (simp; omega) | omega)
  clear kc3 kf3 kz3 ky3 kx3 kv3 ku3 hb3 q2_h_0 r2_h_0 q2_h_1 r2_h_1 q2_h_2 r2_h_2 z2_h q2_h_1_0 r2_h_1_0 z2_h_1
  (go_wp2_with fail; refine (isOf_impl _ _ _ _ _ _ _ _).mono ?_; rintro e w4 ⟨rfl, hb4⟩; rw [n3]; (have ha4 : Below w.heap.size w w4 := by (repeat (first | with_reducible exact Below.refl _ _ | with_reducible assumption | with_reducible refine balloc ?_ _ | with_reducible refine bdrew ?_ | with_reducible refine below_drewN ?_ _ | with_reducible refine bset ?_ ?_ _ | with_reducible exact Nat.le_refl _ | with_reducible refine bsize ?_ | (dsimp only; refine Nat.le_trans ?_ (Nat.le_add_right _ _)) | with_reducible refine Nat.le_trans ?_ (Nat.le_add_right _ _) | (with_reducible refine bstep ?_ (by assumption))))); obtain ⟨kc4, kf4, kz4, ky4, kx4, kv4, ku4⟩ := bcell hb4)
  have q4_h_0 : w4.cell? ⟨w.heap.size, 0, none⟩ = some (.int .i64 k) := by rw [kc4 _ _ (by first | assumption | (simp; done) | (simp; omega) | omega)]; simp [go_sem, q3_h_0, r3_h_0, q3_h_1, r3_h_1, q3_h_2, r3_h_2, z3_h, q3_h_1_0, r3_h_1_0, z3_h_1]
  have r4_h_0 : w4.frozen? ⟨w.heap.size, 0, none⟩ = false := by rw [kf4 _ _ (by first | assumption | (simp; done) | (simp; omega) | omega)]; simp [go_sem, q3_h_0, r3_h_0, q3_h_1, r3_h_1, q3_h_2, r3_h_2, z3_h, q3_h_1_0, r3_h_1_0, z3_h_1]
  have q4_h_1 : w4.cell? ⟨w.heap.size, 1, none⟩ = some (.int .i64 a) := by rw [kc4 _ _ (by first | assumption | (simp; done) | (simp; omega) | omega)]; simp [go_sem, q3_h_0, r3_h_0, q3_h_1, r3_h_1, q3_h_2, r3_h_2, z3_h, q3_h_1_0, r3_h_1_0, z3_h_1]
  have r4_h_1 : w4.frozen? ⟨w.heap.size, 1, none⟩ = false := by rw [kf4 _ _ (by first | assumption | (simp; done) | (simp; omega) | omega)]; simp [go_sem, q3_h_0, r3_h_0, q3_h_1, r3_h_1, q3_h_2, r3_h_2, z3_h, q3_h_1_0, r3_h_1_0, z3_h_1]
  have q4_h_2 : w4.cell? ⟨w.heap.size, 2, none⟩ = some (.int .i64 b) := by rw [kc4 _ _ (by first | assumption | (simp; done) | (simp; omega) | omega)]; simp [go_sem, q3_h_0, r3_h_0, q3_h_1, r3_h_1, q3_h_2, r3_h_2, z3_h, q3_h_1_0, r3_h_1_0, z3_h_1]
  have r4_h_2 : w4.frozen? ⟨w.heap.size, 2, none⟩ = false := by rw [kf4 _ _ (by first | assumption | (simp; done) | (simp; omega) | omega)]; simp [go_sem, q3_h_0, r3_h_0, q3_h_1, r3_h_1, q3_h_2, r3_h_2, z3_h, q3_h_1_0, r3_h_1_0, z3_h_1]
  have z4_h : w.heap.size < w4.heap.size := kz4 _ (by first | assumption | (simp; done) | (simp; omega) | omega)
  have q4_h_1_0 : w4.cell? ⟨w.heap.size + 1, 0, none⟩ = some (.int .i64 m) := by rw [kc4 _ _ (by first | assumption | (simp; done) | (simp; omega) | omega)]; simp [go_sem, q3_h_0, r3_h_0, q3_h_1, r3_h_1, q3_h_2, r3_h_2, z3_h, q3_h_1_0, r3_h_1_0, z3_h_1]
  have r4_h_1_0 : w4.frozen? ⟨w.heap.size + 1, 0, none⟩ = false := by rw [kf4 _ _ (by first | assumption | (simp; done) | (simp; omega) | omega)]; simp [go_sem, q3_h_0, r3_h_0, q3_h_1, r3_h_1, q3_h_2, r3_h_2, z3_h, q3_h_1_0, r3_h_1_0, z3_h_1]
  have z4_h_1 : w.heap.size + 1 < w4.heap.size := kz4 _ (by first | assumption | (simp; done) | (simp; omega) | omega)
  clear kc4 kf4 kz4 ky4 kx4 kv4 ku4 hb4 q3_h_0 r3_h_0 q3_h_1 r3_h_1 q3_h_2 r3_h_2 z3_h q3_h_1_0 r3_h_1_0 z3_h_1
  (go_wp2_with fail; refine (isOf_impl _ _ _ _ _ _ _ _).mono ?_; rintro e w5 ⟨rfl, hb5⟩; rw [n4]; (have ha5 : Below w.heap.size w w5 := by (repeat (first | with_reducible exact Below.refl _ _ | with_reducible assumption | with_reducible refine balloc ?_ _ | with_reducible refine bdrew ?_ | with_reducible refine below_drewN ?_ _ | with_reducible refine bset ?_ ?_ _ | with_reducible exact Nat.le_refl _ | with_reducible refine bsize ?_ | (dsimp only; refine Nat.le_trans ?_ (Nat.le_add_right _ _)) | with_reducible refine Nat.le_trans ?_ (Nat.le_add_right _ _) | (with_reducible refine bstep ?_ (by assumption))))); obtain ⟨kc5, kf5, kz5, ky5, kx5, kv5, ku5⟩ := bcell hb5)
  have q5_h_0 : w5.cell? ⟨w.heap.size, 0, none⟩ = some (.int .i64 k) := by rw [kc5 _ _ (by first | assumption | (simp; done) | (simp; omega) | omega)]; simp [go_sem, q4_h_0, r4_h_0, q4_h_1, r4_h_1, q4_h_2, r4_h_2, z4_h, q4_h_1_0, r4_h_1_0, z4_h_1]
  have r5_h_0 : w5.frozen? ⟨w.heap.size, 0, none⟩ = false := by rw [kf5 _ _ (by first | assumption | (simp; done) | (simp; omega) | omega)]; simp [go_sem, q4_h_0, r4_h_0, q4_h_1, r4_h_1, q4_h_2, r4_h_2, z4_h, q4_h_1_0, r4_h_1_0, z4_h_1]
  have q5_h_1 : w5.cell? ⟨w.heap.size, 1, none⟩ = some (.int .i64 a) := by rw [kc5 _ _ (by first | assumption | (simp; done) | (simp; omega) | omega)]; simp [go_sem, q4_h_0, r4_h_0, q4_h_1, r4_h_1, q4_h_2, r4_h_2, z4_h, q4_h_1_0, r4_h_1_0, z4_h_1]
  have r5_h_1 : w5.frozen? ⟨w.heap.size, 1, none⟩ = false := by rw [kf5 _ _ (by first | assumption | (simp; done) | (simp; omega) | omega)]; simp [go_sem, q4_h_0, r4_h_0, q4_h_1, r4_h_1, q4_h_2, r4_h_2, z4_h, q4_h_1_0, r4_h_1_0, z4_h_1]
  have q5_h_2 : w5.cell? ⟨w.heap.size, 2, none⟩ = some (.int .i64 b) := by rw [kc5 _ _ (by first | assumption | (simp; done) | (simp; omega) | omega)]; simp [go_sem, q4_h_0, r4_h_0, q4_h_1, r4_h_1, q4_h_2, r4_h_2, z4_h, q4_h_1_0, r4_h_1_0, z4_h_1]
  have r5_h_2 : w5.frozen? ⟨w.heap.size, 2, none⟩ = false := by rw [kf5 _ _ (by first | assumption | (simp; done) | (simp; omega) | omega)]; simp [go_sem, q4_h_0, r4_h_0, q4_h_1, r4_h_1, q4_h_2, r4_h_2, z4_h, q4_h_1_0, r4_h_1_0, z4_h_1]
  have z5_h : w.heap.size < w5.heap.size := kz5 _ (by first | assumption | (simp; done) | (simp; omega) | omega)
  have q5_h_1_0 : w5.cell? ⟨w.heap.size + 1, 0, none⟩ = some (.int .i64 m) := by rw [kc5 _ _ (by first | assumption | (simp; done) | (simp; omega) | omega)]; simp [go_sem, q4_h_0, r4_h_0, q4_h_1, r4_h_1, q4_h_2, r4_h_2, z4_h, q4_h_1_0, r4_h_1_0, z4_h_1]
  have r5_h_1_0 : w5.frozen? ⟨w.heap.size + 1, 0, none⟩ = false := by rw [kf5 _ _ (by first | assumption | (simp; done) | (simp; omega) | omega)]; simp [go_sem, q4_h_0, r4_h_0, q4_h_1, r4_h_1, q4_h_2, r4_h_2, z4_h, q4_h_1_0, r4_h_1_0, z4_h_1]
  have z5_h_1 : w.heap.size + 1 < w5.heap.size := kz5 _ (by first | assumption | (simp; done) | (simp; omega) | omega)
  clear kc5 kf5 kz5 ky5 kx5 kv5 ku5 hb5 q4_h_0 r4_h_0 q4_h_1 r4_h_1 q4_h_2 r4_h_2 z4_h q4_h_1_0 r4_h_1_0 z4_h_1
  (go_wp2_with fail; refine (isOf_impl _ _ _ _ _ _ _ _).mono ?_; rintro e w6 ⟨rfl, hb6⟩; rw [n5]; (have ha6 : Below w.heap.size w w6 := by (repeat (first | with_reducible exact Below.refl _ _ | with_reducible assumption | with_reducible refine balloc ?_ _ | with_reducible refine bdrew ?_ | with_reducible refine below_drewN ?_ _ | with_reducible refine bset ?_ ?_ _ | with_reducible exact Nat.le_refl _ | with_reducible refine bsize ?_ | (dsimp only; refine Nat.le_trans ?_ (Nat.le_add_right _ _)) | with_reducible refine Nat.le_trans ?_ (Nat.le_add_right _ _) | (with_reducible refine bstep ?_ (by assumption))))); obtain ⟨kc6, kf6, kz6, ky6, kx6, kv6, ku6⟩ := bcell hb6)
  have q6_h_0 : w6.cell? ⟨w.heap.size, 0, none⟩ = some (.int .i64 k) := by rw [kc6 _ _ (by first | assumption | (simp; done) | (simp; omega) | omega)]; simp [go_sem, q5_h_0, r5_h_0, q5_h_1, r5_h_1, q5_h_2, r5_h_2, z5_h, q5_h_1_0, r5_h_1_0, z5_h_1]
  have r6_h_0 : w6.frozen? ⟨w.heap.size, 0, none⟩ = false := by rw [kf6 _ _ (by first | assumption | (simp; done) | (simp; omega) | omega)]; simp [go_sem, q5_h_0, r5_h_0, q5_h_1, r5_h_1, q5_h_2, r5_h_2, z5_h, q5_h_1_0, r5_h_1_0, z5_h_1]
  have q6_h_1 : w6.cell? ⟨w.heap.size, 1, none⟩ = some (.int .i64 a) := by rw [kc6 _ _ (by first | assumption | (simp; done) | (simp; omega) | omega)]; simp [go_sem, q5_h_0, r5_h_0, q5_h_1, r5_h_1, q5_h_2, r5_h_2, z5_h, q5_h_1_0, r5_h_1_0, z5_h_1]
  have r6_h_1 : w6.frozen? ⟨w.heap.size, 1, none⟩ = false := by rw [kf6 _ _ (by first | assumption | (simp; done) | (simp; omega) | omega)]; simp [go_sem, q5_h_0, r5_h_0, q5_h_1, r5_h_1, q5_h_2, r5_h_2, z5_h, q5_h_1_0, r5_h_1_0, z5_h_1]
  have q6_h_2 : w6.cell? ⟨w.heap.size, 2, none⟩ = some (.int .i64 b) := by rw [kc6 _ _ (by first | assumption | (simp; done) | (simp; omega) | omega)]; simp [go_sem, q5_h_0, r5_h_0, q5_h_1, r5_h_1, q5_h_2, r5_h_2, z5_h, q5_h_1_0, r5_h_1_0, z5_h_1]
  have r6_h_2 : w6.frozen? ⟨w.heap.size, 2, none⟩ = false := by rw [kf6 _ _ (by first | assumption | (simp; done) | (simp; omega) | omega)]; simp [go_sem, q5_h_0, r5_h_0, q5_h_1, r5_h_1, q5_h_2, r5_h_2, z5_h, q5_h_1_0, r5_h_1_0, z5_h_1]
  have z6_h : w.heap.size < w6.heap.size := kz6 _ (by first | assumption | (simp; done) | (simp; omega) | omega)
  have q6_h_1_0 : w6.cell? ⟨w.heap.size + 1, 0, none⟩ = some (.int .i64 m) := by rw [kc6 _ _ (by first | assumption | (simp; done) | (simp; omega) | omega)]; simp [go_sem, q5_h_0, r5_h_0, q5_h_1, r5_h_1, q5_h_2, r5_h_2, z5_h, q5_h_1_0, r5_h_1_0, z5_h_1]
  have r6_h_1_0 : w6.frozen? ⟨w.heap.size + 1, 0, none⟩ = false := by rw [kf6 _ _ (by first | assumption | (simp; done) | (simp; omega) | omega)]; simp [go_sem, q5_h_0, r5_h_0, q5_h_1, r5_h_1, q5_h_2, r5_h_2, z5_h, q5_h_1_0, r5_h_1_0, z5_h_1]
  have z6_h_1 : w.heap.size + 1 < w6.heap.size := kz6 _ (by first | assumption | (simp; done) | (simp; omega) | omega)
  clear kc6 kf6 kz6 ky6 kx6 kv6 ku6 hb6 q5_h_0 r5_h_0 q5_h_1 r5_h_1 q5_h_2 r5_h_2 z5_h q5_h_1_0 r5_h_1_0 z5_h_1
  go_wp2
  exact ⟨rfl, rfl, by (repeat (first | with_reducible exact Below.refl _ _ | with_reducible assumption | with_reducible refine balloc ?_ _ | with_reducible refine bdrew ?_ | with_reducible refine below_drewN ?_ _ | with_reducible refine bset ?_ ?_ _ | with_reducible exact Nat.le_refl _ | with_reducible refine bsize ?_ | (dsimp only; refine Nat.le_trans ?_ (Nat.le_add_right _ _)) | with_reducible refine Nat.le_trans ?_ (Nat.le_add_right _ _) | (with_reducible refine bstep ?_ (by assumption))))⟩
/-- The trial of a clue. -/
theorem tr_yes (m k a b : Int) (hm : 1 ≤ m ∧ m ≤ 10) (h : clB m k a b = true) (w : World) :
    Calls Try.prog 55 #[.agg #[.int .i64 k, .int .i64 a, .int .i64 b], .int .i64 m] w fun e w' => ∃ v, e = .returned v ∧ TrialAt m ⟨k, a, b⟩ v w' ∧ Below w.heap.size w w' := by
  simp only [clB, Bool.or_eq_true] at h
  rcases h with ((((h | h) | h) | h) | h) | h
  · obtain rfl := ofB_k h; exact tr_yes_0 m a b hm h w
  · obtain rfl := ofB_k h; exact tr_yes_1 m a b hm h w
  · obtain rfl := ofB_k h; exact tr_yes_2 m a b hm h w
  · obtain rfl := ofB_k h; exact tr_yes_3 m a b hm h w
  · obtain rfl := ofB_k h; exact tr_yes_4 m a b hm h w
  · obtain rfl := ofB_k h; exact tr_yes_5 m a b hm h w

end Go.Proofs.Ytiafmojmanhdoaa

/- Going as far as possible, and the greedy stops, of the program. -/
namespace Go.Proofs.Ytiafmojmanhdoaa
open Go.ChangeShapes Go.WideShapes Go.ChangeAt Go.RowKit Go.Joins
set_option maxRecDepth 100000
set_option linter.unusedVariables false
set_option linter.unusedSimpArgs false


def gfS (n d most : Int) (p : Int × Int) (j : Nat) : Bool := decide ((j : Int) = most) || nrB p (n, d)
def gfI (n d most : Int) (l : List (Int × Int)) (p : Int × Int) (j : Nat) : Int := if gfS n d most p j = true then 0 else fwI l p
def gfB (n d most : Int) (l : List (Int × Int)) (p : Int × Int) (j : Nat) : Bool := if gfS n d most p j = true then false else fwB l p
set_option maxHeartbeats 3200000 in
theorem far1_impl (n d most : Int) (v : Value) (l : List (Int × Int)) (p : Int × Int) (j : Nat) (hp : amB p.1 p.2 = true) (hw : amB n d = true) (hP : ∀ q ∈ l, amB q.1 q.2 = true) (hln : l.length ≤ 1000000) (g1 g2 : Nat) (w : World) (h : RowG 2 fAmt w v l) (c : w.cell? ⟨g1, 0, none⟩ = some (.int .i64 most)) (r : RdAt g2 n d v w) :
    Calls Try.prog 119 #[.agg #[.int .i64 p.1, .int .i64 p.2], .int .i64 (j : Int), .pointer (some ⟨g1, 0, none⟩), .pointer (some ⟨g2, 0, none⟩)] w fun e w' => e = .returned (.tuple #[.int .i64 (gfI n d most l p j), .bool (gfB n d most l p j)]) ∧ Below w.heap.size w w' := by
  have HN := Lib.hid (fun W => near_impl p (n, d) hp hw W)
  have HF := Lib.hid (fun W (hB : Below w.heap.size w W) => farW_impl n d v l p hp hP hln W (rowG_below h hB))
  obtain ⟨av, cv, rfl, hl1, hl2⟩ := row_shape h
  have hg1 : g1 < w.heap.size := cell_lt c
  obtain ⟨r0, r1, r2, rz⟩ := id r
  by_cases hj : (j : Int) = most
  · have e1 : gfI n d most l p j = 0 := by simp [gfI, gfS, hj]
    have e2 : gfB n d most l p j = false := by simp [gfB, gfS, hj]
    rw [e1, e2]
    clear e1 e2 h hP
    subst hj
    go_enter Try.func119, Try.ntmps119
    go_wp2_with fail
    refine bodyPost_ret (v := .tuple #[.int .i64 0, .bool false]) (by simp only [results, Try.results119]; go_simp) rfl ?_
    exact ⟨rfl, by (repeat (first | with_reducible exact Below.refl _ _ | with_reducible assumption | with_reducible refine balloc ?_ _ | with_reducible refine bdrew ?_ | with_reducible refine below_drewN ?_ _ | with_reducible refine bset ?_ ?_ _ | with_reducible exact Nat.le_refl _ | with_reducible refine bsize ?_ | (dsimp only; refine Nat.le_trans ?_ (Nat.le_add_right _ _)) | with_reducible refine Nat.le_trans ?_ (Nat.le_add_right _ _) | (with_reducible refine bstep ?_ (by assumption))))⟩
  · have hjb : ((j : Int) == most) = false := by simpa using hj
    cases hn : nrB p (n, d)
    · have e1 : gfI n d most l p j = fwI l p := by simp [gfI, gfS, hj, hn]
      have e2 : gfB n d most l p j = fwB l p := by simp [gfB, gfS, hj, hn]
      rw [e1, e2]
      rw [hn] at HN
      clear e1 e2 h hP hj hn
      generalize fwI l p = FI at *
      generalize fwB l p = FB at *
      go_enter Try.func119, Try.ntmps119
      go_wp2_with fail
      refine (HN.out _).mono ?_
      rintro e w1 ⟨rfl, hb1⟩
      have f1 : Below w.heap.size w w1 := by (repeat (first | with_reducible exact Below.refl _ _ | with_reducible assumption | with_reducible refine balloc ?_ _ | with_reducible refine bdrew ?_ | with_reducible refine below_drewN ?_ _ | with_reducible refine bset ?_ ?_ _ | with_reducible exact Nat.le_refl _ | with_reducible refine bsize ?_ | (dsimp only; refine Nat.le_trans ?_ (Nat.le_add_right _ _)) | with_reducible refine Nat.le_trans ?_ (Nat.le_add_right _ _) | (with_reducible refine bstep ?_ (by assumption))))
      obtain ⟨kc1, kf1, kz1, ky1, kx1, kv1, ku1⟩ := bcell hb1
      have r3 := r.later f1
      obtain ⟨r0', r1', r2', rz'⟩ := id r3
      have q1_h_0 : w1.cell? ⟨w.heap.size, 0, none⟩ = some (.int .i64 p.1) := by rw [kc1 _ _ (by first | assumption | (simp; done) | (simp; omega) | omega)]; simp [go_sem]
      have r1_h_0 : w1.frozen? ⟨w.heap.size, 0, none⟩ = false := by rw [kf1 _ _ (by first | assumption | (simp; done) | (simp; omega) | omega)]; simp [go_sem]
      have q1_h_1 : w1.cell? ⟨w.heap.size, 1, none⟩ = some (.int .i64 p.2) := by rw [kc1 _ _ (by first | assumption | (simp; done) | (simp; omega) | omega)]; simp [go_sem]
      have r1_h_1 : w1.frozen? ⟨w.heap.size, 1, none⟩ = false := by rw [kf1 _ _ (by first | assumption | (simp; done) | (simp; omega) | omega)]; simp [go_sem]
      have z1_h : w.heap.size < w1.heap.size := kz1 _ (by first | assumption | (simp; done) | (simp; omega) | omega)
      clear kc1 kf1 kz1 ky1 kx1 kv1 ku1 hb1
      go_wp2_with fail
      refine (HF.out _ f1).mono ?_
      rintro e w2 ⟨rfl, hb2⟩
      go_wp2
      refine bodyPost_ret (v := .tuple #[.int .i64 FI, .bool FB]) (by simp only [results, Try.results119]; go_simp) rfl ?_
      exact ⟨rfl, bstep f1 hb2⟩
    · have e1 : gfI n d most l p j = 0 := by simp [gfI, gfS, hn]
      have e2 : gfB n d most l p j = false := by simp [gfB, gfS, hn]
      rw [e1, e2]
      rw [hn] at HN
      clear e1 e2 h hP hj hn
      go_enter Try.func119, Try.ntmps119
      go_wp2_with fail
      refine (HN.out _).mono ?_
      rintro e w1 ⟨rfl, hb1⟩
      have f1 : Below w.heap.size w w1 := by (repeat (first | with_reducible exact Below.refl _ _ | with_reducible assumption | with_reducible refine balloc ?_ _ | with_reducible refine bdrew ?_ | with_reducible refine below_drewN ?_ _ | with_reducible refine bset ?_ ?_ _ | with_reducible exact Nat.le_refl _ | with_reducible refine bsize ?_ | (dsimp only; refine Nat.le_trans ?_ (Nat.le_add_right _ _)) | with_reducible refine Nat.le_trans ?_ (Nat.le_add_right _ _) | (with_reducible refine bstep ?_ (by assumption))))
      go_wp2
      refine bodyPost_ret (v := .tuple #[.int .i64 0, .bool false]) (by simp only [results, Try.results119]; go_simp) rfl ?_
      exact ⟨rfl, f1⟩
set_option maxHeartbeats 1600000 in
theorem goFar_impl (n d most : Int) (v : Value) (l : List (Int × Int)) (hw : amB n d = true) (hP : ∀ q ∈ l, amB q.1 q.2 = true) (ws : List Int) (hs : Nat → Int × Int) (ha : ∀ j, j ≤ ws.length → amB (hs j).1 (hs j).2 = true)
    (hg : Goes l ws hs (fun j => gfI n d most l (hs j) j) (fun j => gfB n d most l (hs j) j)) (w : World) (h : RowG 2 fAmt w v l) :
    Calls Try.prog 110 #[.agg #[.int .i64 n, .int .i64 d, v], .int .i64 most] w fun e w' => ∃ s, e = .returned (.tuple #[s, .agg #[.int .i64 (hs ws.length).1, .int .i64 (hs ws.length).2]]) ∧ w'.ownsRow w.heap.size 3 1 s ws.length (cellsG fInt ws) ∧ Below w.heap.size w w' := by
  have hmf : ∀ (fn : Fn) (first cap : Array Value) (w : World), (Instr.makeFunc fn first cap).run Try.prog w = .ok (.func fn first cap) w := fun _ _ _ _ => rfl
  have HGO := Lib.hid (fun (W : World) (hB : Below w.heap.size w W) (g1 g2 : Nat) (c : W.cell? ⟨g1, 0, none⟩ = some (.int .i64 most)) (r : RdAt g2 n d v W) =>
    goOn_far n d v l ws hs _ _ hg g1 g2 W (rowG_below h hB) (fun j W2 hj hB2 => far1_impl n d most v l (hs j) j (ha j hj) hw hP hg.ll g1 g2 W2 (rowG_below (rowG_below h hB) hB2) (keepa hB2 (cell_lt c) c) (r.later hB2)))
  obtain ⟨av, cv, rfl, hl1, hl2⟩ := row_shape h
  clear h hg ha hP
  generalize (hs ws.length) = q at *
  go_enter Try.func110, Try.ntmps110
  go_wp2_with fail
  refine (HGO.out _ (by (repeat (first | with_reducible exact Below.refl _ _ | with_reducible assumption | with_reducible refine balloc ?_ _ | with_reducible refine bdrew ?_ | with_reducible refine below_drewN ?_ _ | with_reducible refine bset ?_ ?_ _ | with_reducible exact Nat.le_refl _ | with_reducible refine bsize ?_ | (dsimp only; refine Nat.le_trans ?_ (Nat.le_add_right _ _)) | with_reducible refine Nat.le_trans ?_ (Nat.le_add_right _ _) | (with_reducible refine bstep ?_ (by assumption))))) (w.heap.size + 1) w.heap.size (by simp [go_sem]) (((RdAt.new w n d _ _).alloc _).alloc _)).mono ?_
  rintro e w1 ⟨s, rfl, hown, hb1⟩
  obtain ⟨sa, sc, rfl⟩ := owns_shape hown
  have f1 : Below w.heap.size w w1 := by (repeat (first | with_reducible exact Below.refl _ _ | with_reducible assumption | with_reducible refine balloc ?_ _ | with_reducible refine bdrew ?_ | with_reducible refine below_drewN ?_ _ | with_reducible refine bset ?_ ?_ _ | with_reducible exact Nat.le_refl _ | with_reducible refine bsize ?_ | (dsimp only; refine Nat.le_trans ?_ (Nat.le_add_right _ _)) | with_reducible refine Nat.le_trans ?_ (Nat.le_add_right _ _) | (with_reducible refine bstep ?_ (by assumption))))
  have hr := Res9.later (by have h := Res9.new ((w.alloc (.cells #[.int .i64 n, .int .i64 d, .slice av l.length cv] 104)).alloc (.cells #[.int .i64 most] 3)) (.int .i64 0) (.int .i64 0) 101; simp only [World.size_alloc] at h; exact h) hb1
  obtain ⟨rx, ry, r0, r1, rz0, rz1, rz⟩ := hr
  go_wp2
  refine bodyPost_ret (v := .tuple #[.slice sa ws.length sc, .agg #[.int .i64 q.1, .int .i64 q.2]]) (by simp only [results, Try.results110]; go_simp) rfl ?_
  exact ⟨_, rfl, own_set (own_set (own_mono hown (by first | (simp; done) | (simp; omega))) (own_ne hown (b := w.heap.size + 1 + 1) (by first | (simp; done) | (simp; omega))) _) (own_ne hown (b := w.heap.size + 1 + 1) (by first | (simp; done) | (simp; omega))) _, by (repeat (first | with_reducible exact Below.refl _ _ | with_reducible assumption | with_reducible refine balloc ?_ _ | with_reducible refine bdrew ?_ | with_reducible refine below_drewN ?_ _ | with_reducible refine bset ?_ ?_ _ | with_reducible exact Nat.le_refl _ | with_reducible refine bsize ?_ | (dsimp only; refine Nat.le_trans ?_ (Nat.le_add_right _ _)) | with_reducible refine Nat.le_trans ?_ (Nat.le_add_right _ _) | (with_reducible refine bstep ?_ (by assumption))))⟩
def grW (n d : Int) (l : List (Int × Int)) : List Int := (grS n d l).map (fun (x : Nat) => (x : Int) - 1)
def grH (n d : Int) (l : List (Int × Int)) (j : Nat) : Int × Int := atP9 n d l ((0 :: grS n d l).getD j 0)
theorem grH_am {n d : Int} {l : List (Int × Int)} (h : CanP n d l) (j : Nat) (hj : j ≤ (grW n d l).length) : amB (grH n d l j).1 (grH n d l j).2 = true := by
  have hR := grS_run h
  rw [grW, List.length_map] at hj
  have hlt : (0 :: grS n d l).getD j 0 < l.length + 2 := by
    rcases j with _ | j
    · simp
    · obtain ⟨x, hx⟩ : ∃ x, (grS n d l)[j]? = some x := ⟨_, List.getElem?_eq_getElem (by omega)⟩
      obtain ⟨y, _, hy, hn, e⟩ := hR.st j x hx
      have := (grN_is h hy hn).le
      have e2 : (0 :: grS n d l).getD (j + 1) 0 = x := by rw [List.getD_eq_getElem?_getD, List.getElem?_cons_succ, hx]; rfl
      omega
  exact (mono_am (rd_mono h.rd) (atP9_get hlt) (by rw [plL_len]; omega)).1
theorem gr_goes {n d : Int} {l : List (Int × Int)} (h : CanP n d l) : Goes l (grW n d l) (grH n d l) (fun j => gfI n d 16 l (grH n d l j) j) (fun j => gfB n d 16 l (grH n d l j) j) := by
  have hR := grS_run h
  have hl := hR.len
  have h16 := (rdB_1 h.rd).2.1
  have hat : ∀ (j y : Nat), (0 :: grS n d l)[j]? = some y → grH n d l j = atP9 n d l y := fun j y hy => by
    rw [grH, List.getD_eq_getElem?_getD, hy]
    rfl
  refine ⟨by simp [grH, atP9_0], fun j x hx => ?_, ?_, by rw [grW, List.length_map]; omega, by omega⟩
  · rw [grW, List.getElem?_map] at hx
    obtain ⟨X, hX, rfl⟩ := Option.map_eq_some_iff.1 hx
    obtain ⟨y, hy0, hy, hn, hxe⟩ := hR.st j X hX
    have hjl := (List.getElem?_eq_some_iff.1 hX).1
    obtain ⟨f1, f2, f3, f4⟩ := far_next h hy hn
    rw [← hxe] at f1 f3 f4
    have hS : gfS n d 16 (atP9 n d l y) j = false := by
      have e : nrB (atP9 n d l y) (n, d) = false := by rw [← atP9_last n d l]; exact hn
      simp [gfS, e]
      omega
    have hX1 : (0 :: grS n d l)[j + 1]? = some X := by rw [List.getElem?_cons_succ]; exact hX
    refine ⟨?_, ?_, X - 1, by omega, ?_⟩
    · show gfB n d 16 l (grH n d l j) j = true
      rw [hat j y hy0, gfB, hS, if_neg (by simp)]
      exact f2
    · show gfI n d 16 l (grH n d l j) j = _
      rw [hat j y hy0, gfI, hS, if_neg (by simp)]
      exact f1
    · rw [hat (j + 1) X hX1]
      exact f3
  · obtain ⟨y, hy0, hy, hn⟩ := hR.en
    have hlen : (grW n d l).length = (grS n d l).length := by rw [grW, List.length_map]
    rw [hlen, hat _ y hy0, gfB]
    have hS : gfS n d 16 (atP9 n d l y) (grS n d l).length = true := by
      have e : nrB (atP9 n d l y) (n, d) = true := by rw [← atP9_last n d l]; exact hn
      simp [gfS, e]
    rw [if_pos hS]
set_option maxHeartbeats 3200000 in
theorem greedy_impl (n d : Int) (bn : (-9223372036854775808 ≤ n ∧ n ≤ 9223372036854775807)) (bd : (-9223372036854775808 ≤ d ∧ d ≤ 9223372036854775807)) (v : Value) (l : List (Int × Int)) (w : World) (h : RowG 2 fAmt w v l) :
    Calls Try.prog 102 #[.agg #[.int .i64 n, .int .i64 d, v]] w (AnsG 3 1 fInt (grL n d l) (cgB n d l) w) := by
  have HC := Lib.hid (fun (W : World) (hB : Below w.heap.size w W) => canGo_impl n d bn bd v l W (rowG_below h hB))
  cases hc : cgB n d l
  · have e : grL n d l = [] := by simp [grL, hc]
    rw [e]
    rw [hc] at HC
    obtain ⟨av, cv, rfl, hl1, hl2⟩ := row_shape h
    clear h e hc
    generalize rdB n d l = rb at *
    go_enter Try.func102, Try.ntmps102
    go_wp2_with fail
    refine (HC.out _ (by (repeat (first | with_reducible exact Below.refl _ _ | with_reducible assumption | with_reducible refine balloc ?_ _ | with_reducible refine bdrew ?_ | with_reducible refine below_drewN ?_ _ | with_reducible refine bset ?_ ?_ _ | with_reducible exact Nat.le_refl _ | with_reducible refine bsize ?_ | (dsimp only; refine Nat.le_trans ?_ (Nat.le_add_right _ _)) | with_reducible refine Nat.le_trans ?_ (Nat.le_add_right _ _) | (with_reducible refine bstep ?_ (by assumption)))))).mono ?_
    rintro e w1 ⟨rfl, hb1⟩
    go_wp2
    refine bodyPost_ret (v := .tuple #[.slice none 0 0, .bool false]) (by simp only [results, Try.results102]; go_simp) rfl ?_
    exact ans_owns rfl ⟨rfl, Or.inl ⟨rfl, rfl⟩⟩ (by (repeat (first | with_reducible exact Below.refl _ _ | with_reducible assumption | with_reducible refine balloc ?_ _ | with_reducible refine bdrew ?_ | with_reducible refine below_drewN ?_ _ | with_reducible refine bset ?_ ?_ _ | with_reducible exact Nat.le_refl _ | with_reducible refine bsize ?_ | (dsimp only; refine Nat.le_trans ?_ (Nat.le_add_right _ _)) | with_reducible refine Nat.le_trans ?_ (Nat.le_add_right _ _) | (with_reducible refine bstep ?_ (by assumption)))))
  · have hcan := canP_of hc
    have e : grL n d l = grW n d l := by simp [grL, grW, hc]
    rw [e]
    rw [hc] at HC
    have hAm := plL_am hcan.rd
    have hw : amB n d = true := rp_am (rdB_1 hcan.rd).1
    have hP : ∀ q ∈ l, amB q.1 q.2 = true := fun q hq => rp_am ((rdB_1 hcan.rd).2.2 q hq)
    have HG := Lib.hid (fun (W : World) (hB : Below w.heap.size w W) => goFar_impl n d 16 v l hw hP (grW n d l) (grH n d l) (grH_am hcan) (gr_goes hcan) W (rowG_below h hB))
    obtain ⟨av, cv, rfl, hl1, hl2⟩ := row_shape h
    clear h e hc hcan hAm hP
    generalize rdB n d l = rb at *
    generalize grH n d l (grW n d l).length = q at *
    generalize grW n d l = ws at *
    go_enter Try.func102, Try.ntmps102
    go_wp2_with fail
    refine (HC.out _ (by (repeat (first | with_reducible exact Below.refl _ _ | with_reducible assumption | with_reducible refine balloc ?_ _ | with_reducible refine bdrew ?_ | with_reducible refine below_drewN ?_ _ | with_reducible refine bset ?_ ?_ _ | with_reducible exact Nat.le_refl _ | with_reducible refine bsize ?_ | (dsimp only; refine Nat.le_trans ?_ (Nat.le_add_right _ _)) | with_reducible refine Nat.le_trans ?_ (Nat.le_add_right _ _) | (with_reducible refine bstep ?_ (by assumption)))))).mono ?_
    rintro e w1 ⟨rfl, hb1⟩
    have f1 : Below w.heap.size w w1 := by (repeat (first | with_reducible exact Below.refl _ _ | with_reducible assumption | with_reducible refine balloc ?_ _ | with_reducible refine bdrew ?_ | with_reducible refine below_drewN ?_ _ | with_reducible refine bset ?_ ?_ _ | with_reducible exact Nat.le_refl _ | with_reducible refine bsize ?_ | (dsimp only; refine Nat.le_trans ?_ (Nat.le_add_right _ _)) | with_reducible refine Nat.le_trans ?_ (Nat.le_add_right _ _) | (with_reducible refine bstep ?_ (by assumption))))
    obtain ⟨r0, r1, r2, rz⟩ := (RdAt.new w n d (.slice av l.length cv) 104).later hb1
    go_wp2_with fail
    refine (HG.out _ f1).mono ?_
    rintro e w2 ⟨s, rfl, hown, hb2⟩
    obtain ⟨sa, sc, rfl⟩ := owns_shape hown
    have f2 : Below w.heap.size w w2 := bstep f1 hb2
    go_wp2
    refine bodyPost_ret (v := .tuple #[.slice sa ws.length sc, .bool true]) (by simp only [results, Try.results102]; go_simp) rfl ?_
    exact ans_owns rfl (own_mono (own_alloc hown _) f1.size) (by (repeat (first | with_reducible exact Below.refl _ _ | with_reducible assumption | with_reducible refine balloc ?_ _ | with_reducible refine bdrew ?_ | with_reducible refine below_drewN ?_ _ | with_reducible refine bset ?_ ?_ _ | with_reducible exact Nat.le_refl _ | with_reducible refine bsize ?_ | (dsimp only; refine Nat.le_trans ?_ (Nat.le_add_right _ _)) | with_reducible refine Nat.le_trans ?_ (Nat.le_add_right _ _) | (with_reducible refine bstep ?_ (by assumption)))))
end Go.Proofs.Ytiafmojmanhdoaa

/- A region that draws its order and ends with one store into what it loads: loads may be taken first as long as nothing but that last operation writes what they read. -/
namespace Go.Proofs.Ytiafmojmanhdoaa
open Go
set_option linter.unusedVariables false

section
variable {P : Program} {ops : Array Oper} {Q : Exit → Act → World → Prop} {md : Region.Mode} {S : World → Prop} {n : Nat}

/-- Whatever order is picked from here on, and S holds behind each operation but number n. -/
def wpAnyT (P : Program) (md : Region.Mode) (ops : Array Oper) (Q : Exit → Act → World → Prop) (S : World → Prop) (n : Nat) : Nat → Array Bool → Act → World → Prop
  | 0, l, a, w => Region.ready md ops l = [] ∧ Q .normal a w
  | k + 1, l, a, w => (Region.ready md ops l = [] → Q .normal a w) ∧ ∀ i ∈ Region.ready md ops l, wpOp P ops Q i (fun a' w' => (i = n ∨ S w') ∧ wpAnyT P md ops Q S n k (l.setIfInBounds i true) a' w') a w
theorem wpAny_of_T (k : Nat) : ∀ (l : Array Bool) (a : Act) (w : World), wpAnyT P md ops Q S n k l a w → wpAny P md ops Q k l a w := by
  induction k with
  | zero => exact fun _ _ _ h => h
  | succ k ih => exact fun l a w h => ⟨h.1, fun i hi => wpOp_mono (fun a' w' h' => ih _ a' w' h'.2) (h.2 i hi)⟩
theorem not_listed {l : Array Bool} {i : Nat} (h0 : l.getD i true = false) (h1 : l.getD i false = true) : False := by
  by_cases hlt : i < l.size
  · simp [hlt] at h0 h1; rw [h0] at h1; cases h1
  · have : l[i]? = none := Array.getElem?_eq_none (by omega)
    simp [this] at h0
theorem wpAnyT_first {i : Nat} {oi on : Oper} {v : Value} (hi : ops[i]? = some oi) (hn : ops[n]? = some on) (hni : ∃ e ∈ on.after, Region.binds md e = true ∧ e.on = i) (hsel : ∀ (j : Nat) (o : Oper) cs b, ops[j]? = some o → o.op ≠ .select cs b)
    (hQ : ∀ c a w, Q (.panic c) (a.put oi.dst v) w → Q (.panic c) a w) (k : Nat) : ∀ (l : Array Bool) (a : Act) (w : World),
      (∀ j oj, ops[j]? = some oj → j ≠ i → l.getD j true = false → (∀ e ∈ oj.after, Region.binds md e = true → e.on ≠ i) → oi.apart ops oj = true) →
      i ∈ Region.ready md ops l → YieldsIf P ops S oi v a → S w → wpAnyT P md ops Q S n k (l.setIfInBounds i true) (a.put oi.dst v) w → wpAnyT P md ops Q S n (k + 1) l a w := by
  induction k with
  | zero =>
    intro l a w _ hr hy hS H
    refine ⟨fun h => absurd hr (by simp [h]), fun j hj => ?_⟩
    rcases Nat.decEq j i with hji | hji
    · have := ready_mono hj hji
      rw [H.1] at this
      exact absurd this (by simp)
    · subst hji; exact hy.wpOp hi hS ⟨Or.inr hS, H⟩
  | succ k ih =>
    intro l a w hfree hr hy hS H
    refine ⟨fun h => absurd hr (by simp [h]), fun j hj => ?_⟩
    rcases Nat.decEq j i with hji | hji
    · have hiu := (mem_ready.1 hr).1
      obtain ⟨hju, oj, hoj, hall⟩ := mem_ready.1 hj
      have hwait : ∀ e ∈ oj.after, Region.binds md e = true → e.on ≠ i := fun e he hb heq => not_listed hiu (heq ▸ hall e he hb)
      have hjn : j ≠ n := fun e => by
        subst e
        rw [hn] at hoj
        cases hoj
        obtain ⟨e, he, hb, heq⟩ := hni
        exact hwait e he hb heq
      have h2 := wpOp_putIf hoj (hfree j oj hoj hji hju hwait) (fun cs b => hsel i oi cs b hi) (fun cs b => hsel j oj cs b hoj) hQ hy (H.2 j (ready_mono hj hji))
      refine wpOp_mono (fun a' w' h3 => ?_) h2
      obtain ⟨y3, s3, t3⟩ := h3
      have s4 := s3.resolve_left hjn
      refine ⟨Or.inr s4, ih _ a' w' (fun m om hm hmi hun hno => hfree m om hm hmi ?_ hno) (ready_mono hr (Ne.symm hji)) y3 s4 ?_⟩
      · by_cases hjm : j = m
        · exact hjm ▸ hju
        · rwa [getD_set_ne true hjm] at hun
      · rwa [Array.setIfInBounds_comm _ _ hji]
    · subst hji; exact hy.wpOp hi hS ⟨Or.inr hS, H⟩
/-- Number i is taken first. -/
theorem wpAnyT_take {i : Nat} {oi : Oper} {v : Value} {k : Nat} {l : Array Bool} {a : Act} {w : World} (hi : ops[i]? = some oi)
    (hn : ((ops[n]?).map fun o => o.after.any fun e => Region.binds md e && e.on == i) = some true)
    (hs : Region.noSelect ops = true) (hf : Region.free md ops l i = true) (hr : (Region.ready md ops l).contains i = true)
    (hQ : ∀ c a w, Q (.panic c) (a.put oi.dst v) w → Q (.panic c) a w) (hy : YieldsIf P ops S oi v a) (hS : S w)
    (h : wpAnyT P md ops Q S n k (l.setIfInBounds i true) (a.put oi.dst v) w) : wpAnyT P md ops Q S n (k + 1) l a w := by
  cases ho : ops[n]? with
  | none => rw [ho] at hn; cases hn
  | some on =>
    rw [ho] at hn
    simp only [Option.map_some, Option.some.injEq] at hn
    obtain ⟨e, he, hb⟩ := Array.any_eq_true'.1 hn
    simp only [Bool.and_eq_true, beq_iff_eq] at hb
    exact wpAnyT_first hi ho ⟨e, he, hb.1, hb.2⟩ (Region.noSelect_spec hs) hQ k l a w (Region.free_spec hi hf) (by simpa using hr) hy hS h
/-- One operation alone may come up. -/
theorem wpAnyT_one {i : Nat} {o : Oper} {k : Nat} {l : Array Bool} {a : Act} {w : World} (hr : Region.ready md ops l = [i]) (ho : ops[i]? = some o)
    (h : ∀ K : Act → World → Prop, Shut (∀ a w, (i = n ∨ S w) → ((i = n ∨ S w) → wpAnyT P md ops Q S n k (l.setIfInBounds i true) a w) → K a w) → if Region.wanted o (yielded ops a.tmps) = true then Oper.wp P o a w K Q else K (a.put o.dst undef) w) :
    wpAnyT P md ops Q S n (k + 1) l a w := by
  refine ⟨fun e => absurd (hr ▸ e) (by simp), fun j hj => ?_⟩
  rw [hr] at hj
  have e : j = i := by simpa using hj
  subst e
  exact wpOp_step ho (fun K hK => h K (fun a w hS hW => hK a w ⟨hS, hW hS⟩))
theorem wpAnyT_done {l : Array Bool} {a : Act} {w : World} (hr : Region.ready md ops l = []) (h : Q .normal a w) : ∀ k, wpAnyT P md ops Q S n k l a w
  | 0 => ⟨hr, h⟩
  | _ + 1 => ⟨fun _ => h, by rw [hr]; simp⟩
theorem wp_region_T {id : Nat} {a : Act} {w : World} (n : Nat) (S : World → Prop) (hm : P.follows .mixedOrders = true) (hS : S w.drew)
    (h : S w.drew → wpAnyT P .any ops Q S n ops.size (Array.replicate ops.size false) a w.drew) : (Code.region id ops true).wp P Q a w :=
  wp_region_any hm (wpAny_of_T _ _ _ _ (h hS))
end
end Go.Proofs.Ytiafmojmanhdoaa

/- Puzzles: the trials of clues, of the program. -/
namespace Go.Proofs.Ytiafmojmanhdoaa
open Go.ChangeShapes Go.WideShapes Go.ChangeAt Go.RowKit Go.Joins
set_option maxRecDepth 100000
set_option linter.unusedVariables false
set_option linter.unusedSimpArgs false

theorem share9 (n d : Int) (hn : n ≤ 9223372036854775807) (hd : d ≤ 9223372036854775807) (w : World) :
    Calls Try.prog 111 #[.int .i64 n, .int .i64 d] w fun e w' => e = .returned (.agg #[.int .i64 (lowN n d), .int .i64 (lowD n d)]) ∧ Below w.heap.size w w' := by
  go_enter Try.func111, Try.ntmps111
  (go_wp2_with fail; refine (low_impl n d hn hd _).mono ?_; rintro e w1 ⟨rfl, hb1⟩; have ha1 := hb1; obtain ⟨kc1, kf1, kz1, ky1, kx1, kv1, ku1⟩ := bcell hb1)
  go_wp2
  refine bodyPost_ret (v := .agg #[.int .i64 (lowN n d), .int .i64 (lowD n d)]) (by simp only [results, Try.results111]; go_simp) rfl ⟨rfl, ?_⟩
  (repeat (first | with_reducible exact Below.refl _ _ | with_reducible assumption | with_reducible refine balloc ?_ _ | with_reducible refine bdrew ?_ | with_reducible refine below_drewN ?_ _ | with_reducible refine bset ?_ ?_ _ | with_reducible exact Nat.le_refl _ | with_reducible refine bsize ?_ | (dsimp only; refine Nat.le_trans ?_ (Nat.le_add_right _ _)) | with_reducible refine Nat.le_trans ?_ (Nat.le_add_right _ _) | (with_reducible refine bstep ?_ (by assumption))))
theorem set_blk3 {W : World} {gg : Nat} {x y v v' : Value} {t : TypeId} (h : Blk gg #[x, y, v] t W) : Blk gg #[x, y, v'] t (W.setCell ⟨gg, 2, none⟩ v') := by
  unfold Blk at *
  simp [World.setCell, Array.getElem?_modify, h]
theorem rdL_take {t : Int} {ws : List Int} {k : Nat} {x : Int} (hx : ws[k]? = some x) : rdL t (ws.take (k + 1)) = rdL t (ws.take k) ++ [shA t x] := by
  rw [List.take_add_one, hx]; simp [rdL]
set_option maxHeartbeats 6400000 in
theorem road_impl (m t : Int) (hm : m ≤ 9223372036854775807) (ht : t ≤ 9223372036854775807) (v : Value) (ws : List Int) (hl : ws.length ≤ 1000) (w : World) (h : RowG 1 fInt w v ws) :
    Calls Try.prog 103 #[.int .i64 m, v, .int .i64 t] w fun e w' => ∃ s, e = .returned (.agg #[.int .i64 (shA t m).1, .int .i64 (shA t m).2, s]) ∧ w'.ownsRow w.heap.size 101 2 s ws.length (cellsG fAmt (rdL t ws)) ∧ Below w.heap.size w w' := by
  obtain ⟨j0, hj0, hy0, hy1, hy2⟩ := info_parts infoAmt
  obtain ⟨a0, c0, rfl, hl1, hl2, hI⟩ := ints_of h
  have HI := Lib.hid hI
  obtain ⟨n, hn⟩ : ∃ n, ws.length = n := ⟨_, rfl⟩
  have HN := Lib.hid hn
  rw [hn] at hl1 hl ⊢
  clear h hI hn
  have HS := Lib.hid (fun x (hx : x ≤ 9223372036854775807) W => share9 x t hx ht W)
  have eW1 : (shA t m).1 = lowN m t := rfl
  have eW2 : (shA t m).2 = lowD m t := rfl
  rw [eW1, eW2]
  clear eW1 eW2
  go_enter Try.func103, Try.ntmps103
  go_wp2_with fail
  refine (HS.out m hm _).mono ?_
  rintro e w1 ⟨rfl, hb1⟩
  have hbr : Blk w.heap.size #[.int .i64 0, .int .i64 0, .slice none 0 0] 104 w1 := (Blk.new w _ _).later hb1
  have hz1 := hb1.size
  simp at hz1
  have ha1 : Below w.heap.size w w1 := by (repeat (first | with_reducible exact Below.refl _ _ | with_reducible assumption | with_reducible refine balloc ?_ _ | with_reducible refine bdrew ?_ | with_reducible refine below_drewN ?_ _ | with_reducible refine bset ?_ ?_ _ | with_reducible exact Nat.le_refl _ | with_reducible refine bsize ?_ | (dsimp only; refine Nat.le_trans ?_ (Nat.le_add_right _ _)) | with_reducible refine Nat.le_trans ?_ (Nat.le_add_right _ _) | (with_reducible refine bstep ?_ (by assumption))))
  go_upto_region 2 with fail
  refine (fun (h : ∀ V, V = _ → Code.wp _ _ _ _ V) => h _ rfl) ?_
  intro w2 hV2
  have hbx : Blk w1.heap.size #[.int .i64 (lowN m t), .int .i64 (lowD m t), .slice none 0 0] 104 w2 := by rw [hV2]; first | exact Blk.new w1 _ _ | (unfold Blk; simp [go_sem, World.setCell])
  have ha2 : Below w.heap.size w w2 := by rw [hV2]; (repeat (first | with_reducible exact Below.refl _ _ | with_reducible assumption | with_reducible refine balloc ?_ _ | with_reducible refine bdrew ?_ | with_reducible refine below_drewN ?_ _ | with_reducible refine bset ?_ ?_ _ | with_reducible exact Nat.le_refl _ | with_reducible refine bsize ?_ | (dsimp only; refine Nat.le_trans ?_ (Nat.le_add_right _ _)) | with_reducible refine Nat.le_trans ?_ (Nat.le_add_right _ _) | (with_reducible refine bstep ?_ (by assumption))))
  have hbr2 : Blk w.heap.size #[.int .i64 0, .int .i64 0, .slice none 0 0] 104 w2 := hbr.later (by rw [hV2]; (repeat (first | with_reducible exact Below.refl _ _ | with_reducible assumption | with_reducible refine balloc ?_ _ | with_reducible refine bdrew ?_ | with_reducible refine below_drewN ?_ _ | with_reducible refine bset ?_ ?_ _ | with_reducible exact Nat.le_refl _ | with_reducible refine bsize ?_ | (dsimp only; refine Nat.le_trans ?_ (Nat.le_add_right _ _)) | with_reducible refine Nat.le_trans ?_ (Nat.le_add_right _ _) | (with_reducible refine bstep ?_ (by assumption)))))
  clear hV2 hb1 hbr ha1
  obtain ⟨g, hg⟩ : ∃ g, w1.heap.size = g := ⟨_, rfl⟩
  rw [hg] at hbx hz1 ⊢
  clear hg
  go_wp2
  go_loopw [16] (fun i wr => ∃ (k : Nat) (v : Value), k ≤ n ∧ i = .int .i64 k ∧ Blk g #[.int .i64 (lowN m t), .int .i64 (lowD m t), v] 104 wr ∧ Blk w.heap.size #[.int .i64 0, .int .i64 0, .slice none 0 0] 104 wr ∧ wr.ownsRow w.heap.size 101 2 v k (cellsG fAmt (rdL t (ws.take k))) ∧ Below w.heap.size w wr) (fun i _ => n - (intOf i).toNat)
  case atStart => exact ⟨0, _, Nat.zero_le _, rfl, hbx, hbr2, World.ownsRow_nil _ _ _ _, ha2⟩
  case round =>
    obtain ⟨k, v, hk, rfl, hbk, hbr3, hown, hbel⟩ := hrel
    obtain ⟨av, cv, rfl⟩ := owns_shape hown
    clear hbx hbr2 ha2
    by_cases hlt : k < n
    · obtain ⟨x, hx⟩ : ∃ x, ws[k]? = some x := ⟨_, List.getElem?_eq_getElem (by rw [HN.out]; exact hlt)⟩
      obtain ⟨a, rfl, e0, b1, b2⟩ := (HI.out.later hbel) k x hx
      have hs := Lib.hid (rdL_take (t := t) hx)
      clear hx
      have cg := hbk.cell 2
      simp at cg
      go_upto_region 5 with fail
      refine wp_region_noPanic ?_
      refine wp_region_T 8 (fun V => V.cell? ⟨g, 2, none⟩ = some (.slice av k cv)) (by kernel_rfl) (by simpa using hbk.cell 2) (fun hHeld => ?_)
      (refine wpAnyT_take (i := 0) (v := ?_) (by rfl) (by kernel_rfl) (by kernel_rfl) (by kernel_rfl) (by kernel_rfl) (fun _ _ _ h => h) (Or.inl ⟨by rfl, ?_⟩) (by assumption) ?_; rotate_left; (focus (intro w hSw; (try dsimp only at hSw); go_simp; (try with_reducible rfl))); (try simp only [Act.put, List.setIfInBounds_toArray, List.set_cons_zero, List.set_cons_succ]))
      (refine wpAnyT_take (i := 1) (v := ?_) (by rfl) (by kernel_rfl) (by kernel_rfl) (by kernel_rfl) (by kernel_rfl) (fun _ _ _ h => h) (Or.inl ⟨by rfl, ?_⟩) (by assumption) ?_; rotate_left; (focus (intro w hSw; (try dsimp only at hSw); go_simp; (try with_reducible rfl))); (try simp only [Act.put, List.setIfInBounds_toArray, List.set_cons_zero, List.set_cons_succ]))
      (refine wpAnyT_take (i := 2) (v := ?_) (by rfl) (by kernel_rfl) (by kernel_rfl) (by kernel_rfl) (by kernel_rfl) (fun _ _ _ h => h) (Or.inl ⟨by rfl, ?_⟩) (by assumption) ?_; rotate_left; (focus (intro w hSw; (try dsimp only at hSw); go_simp; (try with_reducible rfl))); (try simp only [Act.put, List.setIfInBounds_toArray, List.set_cons_zero, List.set_cons_succ]))
      (refine wpAnyT_take (i := 3) (v := ?_) (by rfl) (by kernel_rfl) (by kernel_rfl) (by kernel_rfl) (by kernel_rfl) (fun _ _ _ h => h) (Or.inl ⟨by rfl, ?_⟩) (by assumption) ?_; rotate_left; (focus (intro w hSw; (try dsimp only at hSw); go_simp; (try with_reducible rfl))); (try simp only [Act.put, List.setIfInBounds_toArray, List.set_cons_zero, List.set_cons_succ]))
      (refine wpAnyT_one (i := 4) (by kernel_rfl) (by rfl) (fun K hK => ?_); go_simp; (refine (HS.out x (by omega) _).mono ?_; rintro e w4 ⟨rfl, hb4⟩; (have hbel4 : Below wr.heap.size wr w4 := by (repeat (first | with_reducible exact Below.refl _ _ | with_reducible assumption | with_reducible refine balloc ?_ _ | with_reducible refine bdrew ?_ | with_reducible refine below_drewN ?_ _ | with_reducible refine bset ?_ ?_ _ | with_reducible exact Nat.le_refl _ | with_reducible refine bsize ?_ | (dsimp only; refine Nat.le_trans ?_ (Nat.le_add_right _ _)) | with_reducible refine Nat.le_trans ?_ (Nat.le_add_right _ _) | (with_reducible refine bstep ?_ (by assumption)))))); (try go_wp2_with fail); refine hK.out _ _ (Or.inr (by simpa using (hbk.later hbel4).cell 2)) (fun hHeld => ?_); replace hHeld := hHeld.resolve_left (by decide); clear hK; clear K; (try simp only [Act.put, List.setIfInBounds_toArray, List.set_cons_zero, List.set_cons_succ]))
      have hb5 : Below w4.heap.size w4 (w4.alloc (.cells #[.int .i64 (lowN x t), .int .i64 (lowD x t)] 101)) := balloc (Below.refl _ _) _
      have hbk5 := (hbk.later hbel4).later hb5
      have hbr5 := (hbr3.later hbel4).later hb5
      have hown5 := ownsRow_below (ownsRow_below hown hbel4) hb5
      (refine wpAnyT_one (i := 5) (by kernel_rfl) (by rfl) (fun K hK => ?_); go_simp; skip; (try go_wp2_with fail); refine hK.out _ _ (Or.inr (by simpa using hbk5.cell 2)) (fun hHeld => ?_); replace hHeld := hHeld.resolve_left (by decide); clear hK; clear K; (try simp only [Act.put, List.setIfInBounds_toArray, List.set_cons_zero, List.set_cons_succ]))
      refine wpAnyT_one (i := 6) (by kernel_rfl) (by rfl) (fun K hK => ?_)
      refine step_append_own rfl (.tmp 21) (.tmp 25) 102 rfl w.heap.size 101 j0 (.agg #[.int .i64 0, .int .i64 0]) 2 16 Try.underlying102 hj0 hy0 hy1 hy2 rfl (by decide) (.slice av k cv) k (cellsG fAmt (rdL t (ws.take k))) ?c6 hown5 ⟨w4.heap.size, 0, none⟩ 1 1 [.int .i64 (lowN x t), .int .i64 (lowD x t)] ?c7 rfl ?c1 ?c2 ?c3 ?c4 ?c5 ?_
      case c6 => simp [Act.eval, Act.put]
      case c7 => simp [Act.eval, Act.put]; done
      case c1 => first | exact cell_two_new _ _ _ _ | (intro j u hj; rcases j with _ | _ | j <;> simp at hj <;> subst hj <;> simp [go_sem]; done)
      case c2 => simp [Value.oneCell']
      case c3 => unfold maxLen; omega
      case c4 => omega
      case c5 => exact Nat.le_trans hbel.size (Nat.le_trans hbel4.size hb5.size)
      intro v6 w6 hown6 hgr6
      have hbk6 : Blk g #[.int .i64 (lowN m t), .int .i64 (lowD m t), .slice av k cv] 104 w6 := (hgr6.block g hbk5.lt (fun e => neT hown5 hbk5 (by decide) e.symm)).trans hbk5
      have hbr6 : Blk w.heap.size #[.int .i64 0, .int .i64 0, .slice none 0 0] 104 w6 := (hgr6.block w.heap.size hbr5.lt (fun e => neT hown5 hbr5 (by decide) e.symm)).trans hbr5
      have hbel6 : Below w.heap.size w w6 := by
        have h5 := bstep (bstep hbel hbel4) hb5
        exact grown_bel h5 hgr6 hown5 (Nat.le_refl _)
      refine hK.out _ _ (Or.inr (by simpa using hbk6.cell 2)) (fun hHeld => ?_)
      clear hK
      clear K
      (try simp only [Act.put, List.setIfInBounds_toArray, List.set_cons_zero, List.set_cons_succ])
      have c61 := hbk6.cell 2
      have z61 := hbk6.frozen 2
      simp at c61
      obtain ⟨av6, cv6, rfl⟩ := owns_shape hown6
      (refine wpAnyT_take (i := 7) (v := ?_) (by rfl) (by kernel_rfl) (by kernel_rfl) (by kernel_rfl) (by kernel_rfl) (fun _ _ _ h => h) (Or.inl ⟨by rfl, ?_⟩) (by assumption) ?_; rotate_left; (focus (intro w hSw; (try dsimp only at hSw); go_simp; (try with_reducible rfl))); (try simp only [Act.put, List.setIfInBounds_toArray, List.set_cons_zero, List.set_cons_succ]))
      refine wpAnyT_one (i := 8) (by kernel_rfl) (by rfl) (fun K hK => ?_)
      go_simp
      refine hK.out _ _ (Or.inl rfl) (fun _ => ?_)
      refine wpAnyT_done (by kernel_rfl) ?_ _
      refine NoPanic.normal ?_
      clear hK
      clear K
      go_wp2
      go_roundw
      case rel =>
        refine ⟨k + 1, .slice av6 (k + 1) cv6, by omega, by go_num, set_blk3 hbk6, ?_, ?_, bset hbel6 (by have := hz1; simp; omega) _⟩
        · refine hbr6.set (by simp; omega) _
        · rw [hs.out, cellsG_snoc]
          exact own_set (p := ⟨g, 2, none⟩) hown6 (neT (b := g) hown6 hbk6 (by decide)) _
      case measure => simp [intOf]; omega
    · have hkn : k = n := by omega
      subst hkn
      have ek : ws.take k = ws := List.take_of_length_le (by rw [HN.out]; exact Nat.le_refl _)
      rw [ek] at hown
      clear ek
      have c0 := hbk.cell 0
      have c1 := hbk.cell 1
      have c2 := hbk.cell 2
      have z0 := hbr3.frozen 0
      have z1 := hbr3.frozen 1
      have z2 := hbr3.frozen 2
      have d0 := hbr3.cell 0
      have d1 := hbr3.cell 1
      have d2 := hbr3.cell 2
      have hl0 := hbr3.lt
      simp at c0 c1 c2 d0 d1 d2
      have hne := neT (b := w.heap.size) hown hbr3 (by decide)
      go_wp2
      refine bodyPost_ret (v := .agg #[.int .i64 (lowN m t), .int .i64 (lowD m t), .slice av k cv]) (by simp only [results, Try.results103]; go_simp) rfl ?_
      refine ⟨_, rfl, ?_, by (repeat (first | with_reducible exact Below.refl _ _ | with_reducible assumption | with_reducible refine balloc ?_ _ | with_reducible refine bdrew ?_ | with_reducible refine below_drewN ?_ _ | with_reducible refine bset ?_ ?_ _ | with_reducible exact Nat.le_refl _ | with_reducible refine bsize ?_ | (dsimp only; refine Nat.le_trans ?_ (Nat.le_add_right _ _)) | with_reducible refine Nat.le_trans ?_ (Nat.le_add_right _ _) | (with_reducible refine bstep ?_ (by assumption))))⟩
      exact own_set (p := ⟨w.heap.size, 2, none⟩) (own_set (p := ⟨w.heap.size, 1, none⟩) (own_set (p := ⟨w.heap.size, 0, none⟩) hown hne _) hne _) hne _
theorem shA_bd {t x : Int} (t1 : 1 ≤ t) (t2 : t ≤ 10) (x0 : 0 ≤ x) (x1 : x ≤ 10) : (-9223372036854775808 ≤ (shA t x).1 ∧ (shA t x).1 ≤ 9223372036854775807) ∧ (-9223372036854775808 ≤ (shA t x).2 ∧ (shA t x).2 ≤ 9223372036854775807) := by
  have h := (rp_all (sh_amI t1 t2 x0 x1)).1
  have a := am_of _ _ h
  exact ⟨⟨by have := a.a; omega, by have := a.b; omega⟩, ⟨by have := a.c; omega, by have := a.d; omega⟩⟩
theorem rdL_len (t : Int) (ws : List Int) : (rdL t ws).length = ws.length := by rw [rdL, List.length_map]
theorem rd_row {t m : Int} (t1 : 1 ≤ t) (t2 : t ≤ 10) (m2 : m ≤ 10) {ws : List Int} (hr : risB m 0 ws = true) {w : World} {base : Nat} {s : Value} (h : w.ownsRow base 101 2 s ws.length (cellsG fAmt (rdL t ws))) : RowG 2 fAmt w s (rdL t ws) := by
  rw [← rdL_len t ws] at h
  refine rowG_own fAmt_len h (fun p hp y hy => ?_)
  obtain ⟨x, hx, rfl⟩ := List.mem_map.1 hp
  have hb := ris_bd hr x hx
  have h2 := shA_bd t1 t2 (x := x) (by omega) (by omega)
  simp [fAmt] at hy
  rcases hy with rfl | rfl
  · exact h2.1
  · exact h2.2
set_option maxHeartbeats 3200000 in
theorem few_impl (m t : Int) (m1 : 1 ≤ m) (m2 : m ≤ 10) (t1 : 1 ≤ t) (t2 : t ≤ 10) (v : Value) (ws : List Int) (hr : risB m 0 ws = true) (w : World) (h : RowG 1 fInt w v ws) :
    Calls Try.prog 87 #[.int .i64 m, v, .int .i64 t] w fun e w' => e = .returned (.tuple #[.int .i64 ((grL (shA t m).1 (shA t m).2 (rdL t ws)).length : Int), .bool (cgB (shA t m).1 (shA t m).2 (rdL t ws))]) ∧ Below w.heap.size w w' := by
  have h9 := ris_len9 m2 hr
  have HRD := Lib.hid (road_impl m t (by omega) (by omega) v ws (by omega) w h)
  have hbd := shA_bd t1 t2 (x := m) (by omega) m2
  have HG := Lib.hid (fun s W (hS : RowG 2 fAmt W s (rdL t ws)) => greedy_impl (shA t m).1 (shA t m).2 hbd.1 hbd.2 s (rdL t ws) W hS)
  have HR := Lib.hid (fun (W : World) base s (hS : W.ownsRow base 101 2 s ws.length (cellsG fAmt (rdL t ws))) => rd_row t1 t2 m2 hr hS)
  obtain ⟨a0, c0, rfl, hl1, hl2⟩ := row_shape h
  clear h hr hbd
  generalize (shA t m).1 = A at *
  generalize (shA t m).2 = B at *
  generalize rdL t ws = L at *
  generalize cgB A B L = C at *
  generalize grL A B L = G at *
  go_enter Try.func87, Try.ntmps87
  go_wp2_with fail
  refine HRD.out.mono ?_
  rintro e w1 ⟨s, rfl, hown, hb1⟩
  have hS := HR.out _ _ _ hown
  obtain ⟨sa, sc, rfl⟩ := owns_shape hown
  go_wp2_with fail
  refine (HG.out _ _ hS).mono ?_
  rintro e w2 ⟨v2, rfl, hown2, hb2⟩
  obtain ⟨av2, cv2, rfl⟩ := owns_shape hown2
  clear hown hown2 hS HG HR HRD
  go_wp2
  go_ret2
  exact ⟨rfl, by (repeat (first | with_reducible exact Below.refl _ _ | with_reducible assumption | with_reducible refine balloc ?_ _ | with_reducible refine bdrew ?_ | with_reducible refine below_drewN ?_ _ | with_reducible refine bset ?_ ?_ _ | with_reducible exact Nat.le_refl _ | with_reducible refine bsize ?_ | (dsimp only; refine Nat.le_trans ?_ (Nat.le_add_right _ _)) | with_reducible refine Nat.le_trans ?_ (Nat.le_add_right _ _) | (with_reducible refine bstep ?_ (by assumption))))⟩
set_option maxHeartbeats 3200000 in
theorem gap_impl (m : Int) (m1 : 1 ≤ m) (m2 : m ≤ 10) (v : Value) (ws : List Int) (hr : risB m 0 ws = true) (w : World) (h : RowG 1 fInt w v ws) :
    Calls Try.prog 90 #[.int .i64 m, v] w fun e w' => e = .returned (.int .i64 (gapZ m ws)) ∧ Below w.heap.size w w' := by
  have h9 := ris_len9 m2 hr
  have HRD := Lib.hid (road_impl m 1 (by omega) (by omega) v ws (by omega) w h)
  have hbd := shA_bd (t := 1) (by omega) (by omega) (x := m) (by omega) m2
  have HG := Lib.hid (fun s W (hS : RowG 2 fAmt W s (rdL 1 ws)) => longest_impl (shA 1 m).1 (shA 1 m).2 hbd.1 hbd.2 s (rdL 1 ws) W hS)
  have HR := Lib.hid (fun (W : World) base s (hS : W.ownsRow base 101 2 s ws.length (cellsG fAmt (rdL 1 ws))) => rd_row (t := 1) (by omega) (by omega) m2 hr hS)
  rw [← gap_is m1 m2 hr]
  obtain ⟨a0, c0, rfl, hl1, hl2⟩ := row_shape h
  clear h hr hbd
  generalize (shA 1 m).1 = A at *
  generalize (shA 1 m).2 = B at *
  generalize rdL 1 ws = L at *
  generalize rdB A B L = C at *
  generalize lgO A B L = G at *
  go_enter Try.func90, Try.ntmps90
  go_wp2_with fail
  refine HRD.out.mono ?_
  rintro e w1 ⟨s, rfl, hown, hb1⟩
  have hS := HR.out _ _ _ hown
  obtain ⟨sa, sc, rfl⟩ := owns_shape hown
  go_wp2_with fail
  refine (HG.out _ _ hS).mono ?_
  rintro e w2 ⟨rfl, hb2⟩
  clear hown hS HG HR HRD
  go_wp2
  go_ret
  exact ⟨rfl, by (repeat (first | with_reducible exact Below.refl _ _ | with_reducible assumption | with_reducible refine balloc ?_ _ | with_reducible refine bdrew ?_ | with_reducible refine below_drewN ?_ _ | with_reducible refine bset ?_ ?_ _ | with_reducible exact Nat.le_refl _ | with_reducible refine bsize ?_ | (dsimp only; refine Nat.le_trans ?_ (Nat.le_add_right _ _)) | with_reducible refine Nat.le_trans ?_ (Nat.le_add_right _ _) | (with_reducible refine bstep ?_ (by assumption))))⟩
set_option maxHeartbeats 1600000 in
theorem index_impl (x : Int) (v : Value) (l : List Int) (w : World) (h : RowG 1 fInt w v l) :
    Calls Try.prog 101 #[v, .int .i64 x] w fun e w' => ∃ i : Int, e = .returned (.int .i64 i) ∧ Hid (decide (0 ≤ i) = hasB l x) ∧ w = w' := by
  obtain ⟨a0, c0, rfl, hl1, hl2, hI⟩ := ints_of h
  have HI := Lib.hid hI
  clear h hI
  obtain ⟨R, hR⟩ : ∃ R, Hid (hasB l x = R) := ⟨_, Lib.hid rfl⟩
  rw [hR.out]
  go_enter Try.func101, Try.ntmps101
  go_wp2
  go_loopw [8] (fun i wr => ∃ k : Nat, k ≤ l.length ∧ i = .int .i64 k ∧ Hid (hasB (l.take k) x = false) ∧ w = wr) (fun i _ => l.length - (intOf i).toNat)
  case atStart => exact ⟨0, Nat.zero_le _, rfl, Lib.hid (by simp [hasB]), rfl⟩
  case round =>
    obtain ⟨k, hk, rfl, hall, rfl⟩ := hrel
    by_cases hlt : k < l.length
    · obtain ⟨p, hp⟩ : ∃ p, l[k]? = some p := ⟨_, List.getElem?_eq_getElem hlt⟩
      obtain ⟨a, rfl, e0, b1, b2⟩ := HI.out k p hp
      by_cases hpx : p = x
      · subst hpx
        have hyes : Hid (R = true) := Lib.hid (by rw [← hR.out]; exact hasB_yes hp)
        clear hp hall
        go_wp2
        go_ret
        exact ⟨_, rfl, Lib.hid (by rw [hyes.out]; simp), rfl⟩
      · have hnext := Lib.hid (hasB_take hp hall.out hpx)
        have hxp : ¬ x = p := fun e => hpx e.symm
        clear hp hall
        go_wp2
        go_roundw
        case rel => exact ⟨k + 1, by omega, by go_num, hnext, trivial⟩
        case measure => simp [intOf]; omega
    · have hno : Hid (R = false) := by
        refine Lib.hid ?_
        rw [← hR.out]
        have := hall.out
        rwa [List.take_of_length_le (by omega)] at this
      clear hall
      go_wp2
      go_ret
      exact ⟨_, rfl, Lib.hid (by rw [hno.out]; rfl), rfl⟩
theorem contains_impl (x : Int) (v : Value) (l : List Int) (w : World) (h : RowG 1 fInt w v l) :
    Calls Try.prog 83 #[v, .int .i64 x] w fun e w' => e = .returned (.bool (hasB l x)) ∧ w = w' := by
  have HX := Lib.hid (index_impl x v l w h)
  obtain ⟨a0, c0, rfl, hl1, hl2⟩ := row_shape h
  clear h
  generalize hasB l x = R at *
  go_enter Try.func83, Try.ntmps83
  go_wp2_with fail
  refine HX.out.mono ?_
  rintro e w1 ⟨i, rfl, hi, rfl⟩
  by_cases h0 : 0 ≤ i
  all_goals
    have hB := hi.out
    simp only [h0, decide_true, decide_false] at hB
    replace hB := Lib.hid hB
    clear hi
    go_wp2
    go_ret
    exact ⟨by rw [← hB.out]; first | rfl | simp [h0], rfl⟩
end Go.Proofs.Ytiafmojmanhdoaa

/- Puzzles: what a trial answers, and lists taken out by it, of the program. -/
namespace Go.Proofs.Ytiafmojmanhdoaa
open Go.ChangeShapes Go.WideShapes Go.ChangeAt Go.RowKit Go.Joins
set_option maxRecDepth 100000
set_option linter.unusedVariables false
set_option linter.unusedSimpArgs false

set_option maxHeartbeats 1600000 in
theorem tri_0 (m a b : Int) (m1 : 1 ≤ m) (m2 : m ≤ 10) (hc : clB m 0 a b = true) (g gm : Nat) (v : Value) (ws : List Int) (hr : risB m 0 ws = true) (w : World) (h : RowG 1 fInt w v ws) (h1 : Blk g #[.int .i64 0, .int .i64 a, .int .i64 b] 27 w) (h2 : Blk gm #[.int .i64 m] 3 w) :
    Calls Try.prog 82 #[v, .pointer (some ⟨g, 0, none⟩)] w fun e w' => e = .returned (.bool (fitB m ⟨0, a, b⟩ ws)) ∧ Below w.heap.size w w' := by
  obtain ⟨_, hab, ha0, ha1, hb0, hb1⟩ := clP_k hc
  have h9 := ris_len9 m2 hr
  have HH := Lib.hid (fun W (hB : Below w.heap.size w W) => contains_impl a v ws W (rowG_below h hB))
  obtain ⟨a0, n0, rfl, hl1, hl2⟩ := row_shape h
  have c0 := h1.cell 0
  have c1 := h1.cell 1
  have c2 := h1.cell 2
  have d0 := h2.cell 0
  simp at c0 c1 c2 d0
  clear h hr hc
  have e : fitB m ⟨0, a, b⟩ ws = hasB ws a := rfl
  rw [e]; clear e
  generalize hasB ws a = R at *
  go_enter Try.func82, Try.ntmps82
  go_wp2_with fail
  refine (HH.out _ (by (repeat (first | with_reducible exact Below.refl _ _ | with_reducible assumption | with_reducible refine balloc ?_ _ | with_reducible refine bdrew ?_ | with_reducible refine below_drewN ?_ _ | with_reducible refine bset ?_ ?_ _ | with_reducible exact Nat.le_refl _ | with_reducible refine bsize ?_ | (dsimp only; refine Nat.le_trans ?_ (Nat.le_add_right _ _)) | with_reducible refine Nat.le_trans ?_ (Nat.le_add_right _ _) | (with_reducible refine bstep ?_ (by assumption)))))).mono ?_
  rintro e w1 ⟨rfl, rfl⟩
  go_wp2
  go_ret
  exact ⟨rfl, by (repeat (first | with_reducible exact Below.refl _ _ | with_reducible assumption | with_reducible refine balloc ?_ _ | with_reducible refine bdrew ?_ | with_reducible refine below_drewN ?_ _ | with_reducible refine bset ?_ ?_ _ | with_reducible exact Nat.le_refl _ | with_reducible refine bsize ?_ | (dsimp only; refine Nat.le_trans ?_ (Nat.le_add_right _ _)) | with_reducible refine Nat.le_trans ?_ (Nat.le_add_right _ _) | (with_reducible refine bstep ?_ (by assumption))))⟩
set_option maxHeartbeats 1600000 in
theorem tri_1 (m a b : Int) (m1 : 1 ≤ m) (m2 : m ≤ 10) (hc : clB m 1 a b = true) (g gm : Nat) (v : Value) (ws : List Int) (hr : risB m 0 ws = true) (w : World) (h : RowG 1 fInt w v ws) (h1 : Blk g #[.int .i64 1, .int .i64 a, .int .i64 b] 27 w) (h2 : Blk gm #[.int .i64 m] 3 w) :
    Calls Try.prog 84 #[v, .pointer (some ⟨g, 0, none⟩)] w fun e w' => e = .returned (.bool (fitB m ⟨1, a, b⟩ ws)) ∧ Below w.heap.size w w' := by
  obtain ⟨_, hab, ha0, ha1, hb0, hb1⟩ := clP_k hc
  have h9 := ris_len9 m2 hr
  have HH := Lib.hid (fun W (hB : Below w.heap.size w W) => contains_impl a v ws W (rowG_below h hB))
  obtain ⟨a0, n0, rfl, hl1, hl2⟩ := row_shape h
  have c0 := h1.cell 0
  have c1 := h1.cell 1
  have c2 := h1.cell 2
  have d0 := h2.cell 0
  simp at c0 c1 c2 d0
  clear h hr hc
  have e : fitB m ⟨1, a, b⟩ ws = !hasB ws a := rfl
  rw [e]; clear e
  generalize hasB ws a = R at *
  go_enter Try.func84, Try.ntmps84
  go_wp2_with fail
  refine (HH.out _ (by (repeat (first | with_reducible exact Below.refl _ _ | with_reducible assumption | with_reducible refine balloc ?_ _ | with_reducible refine bdrew ?_ | with_reducible refine below_drewN ?_ _ | with_reducible refine bset ?_ ?_ _ | with_reducible exact Nat.le_refl _ | with_reducible refine bsize ?_ | (dsimp only; refine Nat.le_trans ?_ (Nat.le_add_right _ _)) | with_reducible refine Nat.le_trans ?_ (Nat.le_add_right _ _) | (with_reducible refine bstep ?_ (by assumption)))))).mono ?_
  rintro e w1 ⟨rfl, rfl⟩
  go_wp2
  go_ret
  exact ⟨rfl, by (repeat (first | with_reducible exact Below.refl _ _ | with_reducible assumption | with_reducible refine balloc ?_ _ | with_reducible refine bdrew ?_ | with_reducible refine below_drewN ?_ _ | with_reducible refine bset ?_ ?_ _ | with_reducible exact Nat.le_refl _ | with_reducible refine bsize ?_ | (dsimp only; refine Nat.le_trans ?_ (Nat.le_add_right _ _)) | with_reducible refine Nat.le_trans ?_ (Nat.le_add_right _ _) | (with_reducible refine bstep ?_ (by assumption))))⟩
set_option maxHeartbeats 1600000 in
theorem tri_2 (m a b : Int) (m1 : 1 ≤ m) (m2 : m ≤ 10) (hc : clB m 2 a b = true) (g gm : Nat) (v : Value) (ws : List Int) (hr : risB m 0 ws = true) (w : World) (h : RowG 1 fInt w v ws) (h1 : Blk g #[.int .i64 2, .int .i64 a, .int .i64 b] 27 w) (h2 : Blk gm #[.int .i64 m] 3 w) :
    Calls Try.prog 85 #[v, .pointer (some ⟨g, 0, none⟩)] w fun e w' => e = .returned (.bool (fitB m ⟨2, a, b⟩ ws)) ∧ Below w.heap.size w w' := by
  obtain ⟨_, hab, ha0, ha1, hb0, hb1⟩ := clP_k hc
  have h9 := ris_len9 m2 hr
  obtain ⟨a0, n0, rfl, hl1, hl2⟩ := row_shape h
  have c0 := h1.cell 0
  have c1 := h1.cell 1
  have c2 := h1.cell 2
  have d0 := h2.cell 0
  simp at c0 c1 c2 d0
  clear h hr hc
  have e : fitB m ⟨2, a, b⟩ ws = decide ((ws.length : Int) = a) := rfl
  rw [e]; clear e
  generalize ws.length = n at *
  by_cases hq : (n : Int) = a
  all_goals
    go_enter Try.func85, Try.ntmps85
    go_wp2
    go_ret
    exact ⟨by simp [hq], by (repeat (first | with_reducible exact Below.refl _ _ | with_reducible assumption | with_reducible refine balloc ?_ _ | with_reducible refine bdrew ?_ | with_reducible refine below_drewN ?_ _ | with_reducible refine bset ?_ ?_ _ | with_reducible exact Nat.le_refl _ | with_reducible refine bsize ?_ | (dsimp only; refine Nat.le_trans ?_ (Nat.le_add_right _ _)) | with_reducible refine Nat.le_trans ?_ (Nat.le_add_right _ _) | (with_reducible refine bstep ?_ (by assumption))))⟩
set_option maxHeartbeats 1600000 in
theorem tri_3 (m a b : Int) (m1 : 1 ≤ m) (m2 : m ≤ 10) (hc : clB m 3 a b = true) (g gm : Nat) (v : Value) (ws : List Int) (hr : risB m 0 ws = true) (w : World) (h : RowG 1 fInt w v ws) (h1 : Blk g #[.int .i64 3, .int .i64 a, .int .i64 b] 27 w) (h2 : Blk gm #[.int .i64 m] 3 w) :
    Calls Try.prog 86 #[v, .pointer (some ⟨gm, 0, none⟩), .pointer (some ⟨g, 0, none⟩)] w fun e w' => e = .returned (.bool (fitB m ⟨3, a, b⟩ ws)) ∧ Below w.heap.size w w' := by
  obtain ⟨_, hab, ha0, ha1, hb0, hb1⟩ := clP_k hc
  have h9 := ris_len9 m2 hr
  have hst := stops_is m1 m2 (hab (Or.inl rfl)).1 (by omega) hr
  have HH := Lib.hid (fun W (hB : Below w.heap.size w W) => few_impl m a m1 m2 (hab (Or.inl rfl)).1 (by omega) v ws hr W (rowG_below h hB))
  obtain ⟨a0, n0, rfl, hl1, hl2⟩ := row_shape h
  have c0 := h1.cell 0
  have c1 := h1.cell 1
  have c2 := h1.cell 2
  have d0 := h2.cell 0
  simp at c0 c1 c2 d0
  clear h hr hc hab
  have e : fitB m ⟨3, a, b⟩ ws = decide (stopsZ m ws a = b) := rfl
  rw [e]; clear e
  rcases hst with ⟨e1, e2⟩ | ⟨e1, e2, e3⟩
  · rw [e1] at HH
    rw [e2]
    clear e1 e2
    generalize (grL (shA a m).1 (shA a m).2 (rdL a ws)).length = n at *
    have hkb : ∀ w1 : World, Below w.heap.size w w1 → w1.cell? ⟨g, 2, none⟩ = some (.int .i64 b) := fun w1 hb => keepa hb h1.lt c2
    replace hkb := Lib.hid hkb
    by_cases hq : (n : Int) = b
    all_goals
      go_enter Try.func86, Try.ntmps86
      go_wp2_with fail
      refine (HH.out _ (by (repeat (first | with_reducible exact Below.refl _ _ | with_reducible assumption | with_reducible refine balloc ?_ _ | with_reducible refine bdrew ?_ | with_reducible refine below_drewN ?_ _ | with_reducible refine bset ?_ ?_ _ | with_reducible exact Nat.le_refl _ | with_reducible refine bsize ?_ | (dsimp only; refine Nat.le_trans ?_ (Nat.le_add_right _ _)) | with_reducible refine Nat.le_trans ?_ (Nat.le_add_right _ _) | (with_reducible refine bstep ?_ (by assumption)))))).mono ?_
      rintro e w1 ⟨rfl, hb1⟩
      have f2 := hkb.out w1 (by (repeat (first | with_reducible exact Below.refl _ _ | with_reducible assumption | with_reducible refine balloc ?_ _ | with_reducible refine bdrew ?_ | with_reducible refine below_drewN ?_ _ | with_reducible refine bset ?_ ?_ _ | with_reducible exact Nat.le_refl _ | with_reducible refine bsize ?_ | (dsimp only; refine Nat.le_trans ?_ (Nat.le_add_right _ _)) | with_reducible refine Nat.le_trans ?_ (Nat.le_add_right _ _) | (with_reducible refine bstep ?_ (by assumption)))))
      go_wp2
      go_ret
      exact ⟨by simp [hq], by (repeat (first | with_reducible exact Below.refl _ _ | with_reducible assumption | with_reducible refine balloc ?_ _ | with_reducible refine bdrew ?_ | with_reducible refine below_drewN ?_ _ | with_reducible refine bset ?_ ?_ _ | with_reducible exact Nat.le_refl _ | with_reducible refine bsize ?_ | (dsimp only; refine Nat.le_trans ?_ (Nat.le_add_right _ _)) | with_reducible refine Nat.le_trans ?_ (Nat.le_add_right _ _) | (with_reducible refine bstep ?_ (by assumption))))⟩
  · rw [e1] at HH
    rw [e2]
    clear e1 e2 e3
    generalize (grL (shA a m).1 (shA a m).2 (rdL a ws)).length = n at *
    have hkb : ∀ w1 : World, Below w.heap.size w w1 → w1.cell? ⟨g, 2, none⟩ = some (.int .i64 b) := fun w1 hb => keepa hb h1.lt c2
    replace hkb := Lib.hid hkb
    have hq : ¬ (-1 : Int) = b := by omega
    go_enter Try.func86, Try.ntmps86
    go_wp2_with fail
    refine (HH.out _ (by (repeat (first | with_reducible exact Below.refl _ _ | with_reducible assumption | with_reducible refine balloc ?_ _ | with_reducible refine bdrew ?_ | with_reducible refine below_drewN ?_ _ | with_reducible refine bset ?_ ?_ _ | with_reducible exact Nat.le_refl _ | with_reducible refine bsize ?_ | (dsimp only; refine Nat.le_trans ?_ (Nat.le_add_right _ _)) | with_reducible refine Nat.le_trans ?_ (Nat.le_add_right _ _) | (with_reducible refine bstep ?_ (by assumption)))))).mono ?_
    rintro e w1 ⟨rfl, hb1⟩
    have f2 := hkb.out w1 (by (repeat (first | with_reducible exact Below.refl _ _ | with_reducible assumption | with_reducible refine balloc ?_ _ | with_reducible refine bdrew ?_ | with_reducible refine below_drewN ?_ _ | with_reducible refine bset ?_ ?_ _ | with_reducible exact Nat.le_refl _ | with_reducible refine bsize ?_ | (dsimp only; refine Nat.le_trans ?_ (Nat.le_add_right _ _)) | with_reducible refine Nat.le_trans ?_ (Nat.le_add_right _ _) | (with_reducible refine bstep ?_ (by assumption)))))
    go_wp2
    go_ret
    exact ⟨by simp [hq], by (repeat (first | with_reducible exact Below.refl _ _ | with_reducible assumption | with_reducible refine balloc ?_ _ | with_reducible refine bdrew ?_ | with_reducible refine below_drewN ?_ _ | with_reducible refine bset ?_ ?_ _ | with_reducible exact Nat.le_refl _ | with_reducible refine bsize ?_ | (dsimp only; refine Nat.le_trans ?_ (Nat.le_add_right _ _)) | with_reducible refine Nat.le_trans ?_ (Nat.le_add_right _ _) | (with_reducible refine bstep ?_ (by assumption))))⟩
set_option maxHeartbeats 1600000 in
theorem tri_4 (m a b : Int) (m1 : 1 ≤ m) (m2 : m ≤ 10) (hc : clB m 4 a b = true) (g gm : Nat) (v : Value) (ws : List Int) (hr : risB m 0 ws = true) (w : World) (h : RowG 1 fInt w v ws) (h1 : Blk g #[.int .i64 4, .int .i64 a, .int .i64 b] 27 w) (h2 : Blk gm #[.int .i64 m] 3 w) :
    Calls Try.prog 88 #[v, .pointer (some ⟨gm, 0, none⟩), .pointer (some ⟨g, 0, none⟩)] w fun e w' => e = .returned (.bool (fitB m ⟨4, a, b⟩ ws)) ∧ Below w.heap.size w w' := by
  obtain ⟨_, hab, ha0, ha1, hb0, hb1⟩ := clP_k hc
  have h9 := ris_len9 m2 hr
  have hst := stops_is m1 m2 (hab (Or.inr rfl)).1 (by omega) hr
  have HH := Lib.hid (fun W (hB : Below w.heap.size w W) => few_impl m a m1 m2 (hab (Or.inr rfl)).1 (by omega) v ws hr W (rowG_below h hB))
  obtain ⟨a0, n0, rfl, hl1, hl2⟩ := row_shape h
  have c0 := h1.cell 0
  have c1 := h1.cell 1
  have c2 := h1.cell 2
  have d0 := h2.cell 0
  simp at c0 c1 c2 d0
  clear h hr hc hab
  have e : fitB m ⟨4, a, b⟩ ws = decide (stopsZ m ws a < 0) := rfl
  have e9 : decide (stopsZ m ws a < 0) = !cgB (shA a m).1 (shA a m).2 (rdL a ws) := by
    rcases hst with ⟨e1, e2⟩ | ⟨e1, e2, e3⟩
    · rw [e1, e2]; first | (simp; done) | (simp; omega)
    · rw [e1, e2]; rfl
  rw [e, e9]; clear e e9 hst
  generalize cgB (shA a m).1 (shA a m).2 (rdL a ws) = C at *
  generalize (grL (shA a m).1 (shA a m).2 (rdL a ws)).length = n at *
  go_enter Try.func88, Try.ntmps88
  go_wp2_with fail
  refine (HH.out _ (by (repeat (first | with_reducible exact Below.refl _ _ | with_reducible assumption | with_reducible refine balloc ?_ _ | with_reducible refine bdrew ?_ | with_reducible refine below_drewN ?_ _ | with_reducible refine bset ?_ ?_ _ | with_reducible exact Nat.le_refl _ | with_reducible refine bsize ?_ | (dsimp only; refine Nat.le_trans ?_ (Nat.le_add_right _ _)) | with_reducible refine Nat.le_trans ?_ (Nat.le_add_right _ _) | (with_reducible refine bstep ?_ (by assumption)))))).mono ?_
  rintro e w1 ⟨rfl, hb1⟩
  go_wp2
  go_ret
  exact ⟨rfl, by (repeat (first | with_reducible exact Below.refl _ _ | with_reducible assumption | with_reducible refine balloc ?_ _ | with_reducible refine bdrew ?_ | with_reducible refine below_drewN ?_ _ | with_reducible refine bset ?_ ?_ _ | with_reducible exact Nat.le_refl _ | with_reducible refine bsize ?_ | (dsimp only; refine Nat.le_trans ?_ (Nat.le_add_right _ _)) | with_reducible refine Nat.le_trans ?_ (Nat.le_add_right _ _) | (with_reducible refine bstep ?_ (by assumption))))⟩
set_option maxHeartbeats 1600000 in
theorem tri_5 (m a b : Int) (m1 : 1 ≤ m) (m2 : m ≤ 10) (hc : clB m 5 a b = true) (g gm : Nat) (v : Value) (ws : List Int) (hr : risB m 0 ws = true) (w : World) (h : RowG 1 fInt w v ws) (h1 : Blk g #[.int .i64 5, .int .i64 a, .int .i64 b] 27 w) (h2 : Blk gm #[.int .i64 m] 3 w) :
    Calls Try.prog 89 #[v, .pointer (some ⟨gm, 0, none⟩), .pointer (some ⟨g, 0, none⟩)] w fun e w' => e = .returned (.bool (fitB m ⟨5, a, b⟩ ws)) ∧ Below w.heap.size w w' := by
  obtain ⟨_, hab, ha0, ha1, hb0, hb1⟩ := clP_k hc
  have h9 := ris_len9 m2 hr
  have HH := Lib.hid (fun W (hB : Below w.heap.size w W) => gap_impl m m1 m2 v ws hr W (rowG_below h hB))
  have hlt := h1.lt
  obtain ⟨a0, n0, rfl, hl1, hl2⟩ := row_shape h
  have c0 := h1.cell 0
  have c1 := h1.cell 1
  have c2 := h1.cell 2
  have d0 := h2.cell 0
  simp at c0 c1 c2 d0
  clear h hr hc hab
  have e : fitB m ⟨5, a, b⟩ ws = decide (gapZ m ws = a) := rfl
  rw [e]; clear e
  generalize gapZ m ws = S at *
  by_cases hq : S = a
  all_goals
    go_enter Try.func89, Try.ntmps89
    go_wp2_with fail
    go_region_held3 (fun W => Below w.heap.size w W ∧ W.cell? ⟨gm, 0, none⟩ = some (.int .i64 m) ∧ W.cell? ⟨g, 1, none⟩ = some (.int .i64 a)) (((go_split_ands; (repeat' with_reducible apply And.intro) <;> first | with_reducible assumption | with_reducible exact Below.refl _ _ | with_reducible exact Res8.drew (by with_reducible assumption) | with_reducible exact Res8.drew (Res8.alloc (by with_reducible assumption) _) | with_reducible exact Res8.alloc (by with_reducible assumption) _ | with_reducible exact (Res8.set (Res8.set (by with_reducible assumption) 0 _ (by omega)) 1 _ (by omega)) | with_reducible exact Res8.drew (Res8.set (Res8.set (by with_reducible assumption) 0 _ (by omega)) 1 _ (by omega)) | ((repeat (first | with_reducible exact Below.refl _ _ | with_reducible assumption | with_reducible refine balloc ?_ _ | with_reducible refine bdrew ?_ | with_reducible refine below_drewN ?_ _ | with_reducible refine bset ?_ ?_ _ | with_reducible exact Nat.le_refl _ | with_reducible refine bsize ?_ | (dsimp only; refine Nat.le_trans ?_ (Nat.le_add_right _ _)) | with_reducible refine Nat.le_trans ?_ (Nat.le_add_right _ _) | (with_reducible refine bstep ?_ (by assumption)))); done) | (simp [go_sem]; done) | (simp; omega) | (simp [go_sem, *]; done) | go_keep))) (first | (go_at_call 90; refine Calls.mono (HH.out _ (by go_split_ands; assumption)) ?_; rintro e w1 ⟨rfl, hb3⟩; go_split_ands; (have f0 : Below w.heap.size w w1 := bstep (by assumption) hb3); (have f1 := keepa f0 h2.lt d0); (have f2 := keepa f0 hlt c1)))
    all_goals
      go_wp2
      go_ret
      exact ⟨by simp [hq], by (repeat (first | with_reducible exact Below.refl _ _ | with_reducible assumption | with_reducible refine balloc ?_ _ | with_reducible refine bdrew ?_ | with_reducible refine below_drewN ?_ _ | with_reducible refine bset ?_ ?_ _ | with_reducible exact Nat.le_refl _ | with_reducible refine bsize ?_ | (dsimp only; refine Nat.le_trans ?_ (Nat.le_add_right _ _)) | with_reducible refine Nat.le_trans ?_ (Nat.le_add_right _ _) | (with_reducible refine bstep ?_ (by assumption))))⟩
set_option maxHeartbeats 3200000 in
/-- What the closure that is given to DeleteFunc answers. -/
theorem sift1_impl (m : Int) (p : ClueV) (m1 : 1 ≤ m) (m2 : m ≤ 10) (hc : clP m p = true) (gb : Nat) (u v : Value) (ws : List Int) (hr : risB m 0 ws = true) (w : World) (h : RowG 1 fInt w v ws) (hT : TrialAt m p u w) (hb : w.cell? ⟨gb, 0, none⟩ = some u) :
    Calls Try.prog 95 #[v, .pointer (some ⟨gb, 0, none⟩)] w fun e w' => e = .returned (.bool (!fitB m p ws)) ∧ Below w.heap.size w w' := by
  obtain ⟨k, a, b⟩ := p
  obtain ⟨hk, _⟩ := clP_k hc
  obtain ⟨g, gm, h1, h2, rfl⟩ := hT
  obtain ⟨R, hR⟩ : ∃ R, Hid (fitB m ⟨k, a, b⟩ ws = R) := ⟨_, Lib.hid rfl⟩
  rw [hR.out]
  rcases hk with rfl | rfl | rfl | rfl | rfl | rfl
  · have HT := Lib.hid (fun W (hB : Below w.heap.size w W) => tri_0 m a b m1 m2 hc g gm v ws hr W (rowG_below h hB) (h1.later hB) (h2.later hB))
    rw [hR.out] at HT
    have e : trV 0 g gm = trV 0 g gm := rfl
    simp [trV] at hb
    obtain ⟨a0, n0, rfl, hl1, hl2⟩ := row_shape h
    clear h hr hc h1 h2 hR
    go_enter Try.func95, Try.ntmps95
    go_wp2_with fail
    refine (HT.out _ (by (repeat (first | with_reducible exact Below.refl _ _ | with_reducible assumption | with_reducible refine balloc ?_ _ | with_reducible refine bdrew ?_ | with_reducible refine below_drewN ?_ _ | with_reducible refine bset ?_ ?_ _ | with_reducible exact Nat.le_refl _ | with_reducible refine bsize ?_ | (dsimp only; refine Nat.le_trans ?_ (Nat.le_add_right _ _)) | with_reducible refine Nat.le_trans ?_ (Nat.le_add_right _ _) | (with_reducible refine bstep ?_ (by assumption)))))).mono ?_
    rintro e w1 ⟨rfl, hb1⟩
    go_wp2
    go_ret
    exact ⟨rfl, by (repeat (first | with_reducible exact Below.refl _ _ | with_reducible assumption | with_reducible refine balloc ?_ _ | with_reducible refine bdrew ?_ | with_reducible refine below_drewN ?_ _ | with_reducible refine bset ?_ ?_ _ | with_reducible exact Nat.le_refl _ | with_reducible refine bsize ?_ | (dsimp only; refine Nat.le_trans ?_ (Nat.le_add_right _ _)) | with_reducible refine Nat.le_trans ?_ (Nat.le_add_right _ _) | (with_reducible refine bstep ?_ (by assumption))))⟩
  · have HT := Lib.hid (fun W (hB : Below w.heap.size w W) => tri_1 m a b m1 m2 hc g gm v ws hr W (rowG_below h hB) (h1.later hB) (h2.later hB))
    rw [hR.out] at HT
    have e : trV 0 g gm = trV 0 g gm := rfl
    simp [trV] at hb
    obtain ⟨a0, n0, rfl, hl1, hl2⟩ := row_shape h
    clear h hr hc h1 h2 hR
    go_enter Try.func95, Try.ntmps95
    go_wp2_with fail
    refine (HT.out _ (by (repeat (first | with_reducible exact Below.refl _ _ | with_reducible assumption | with_reducible refine balloc ?_ _ | with_reducible refine bdrew ?_ | with_reducible refine below_drewN ?_ _ | with_reducible refine bset ?_ ?_ _ | with_reducible exact Nat.le_refl _ | with_reducible refine bsize ?_ | (dsimp only; refine Nat.le_trans ?_ (Nat.le_add_right _ _)) | with_reducible refine Nat.le_trans ?_ (Nat.le_add_right _ _) | (with_reducible refine bstep ?_ (by assumption)))))).mono ?_
    rintro e w1 ⟨rfl, hb1⟩
    go_wp2
    go_ret
    exact ⟨rfl, by (repeat (first | with_reducible exact Below.refl _ _ | with_reducible assumption | with_reducible refine balloc ?_ _ | with_reducible refine bdrew ?_ | with_reducible refine below_drewN ?_ _ | with_reducible refine bset ?_ ?_ _ | with_reducible exact Nat.le_refl _ | with_reducible refine bsize ?_ | (dsimp only; refine Nat.le_trans ?_ (Nat.le_add_right _ _)) | with_reducible refine Nat.le_trans ?_ (Nat.le_add_right _ _) | (with_reducible refine bstep ?_ (by assumption))))⟩
  · have HT := Lib.hid (fun W (hB : Below w.heap.size w W) => tri_2 m a b m1 m2 hc g gm v ws hr W (rowG_below h hB) (h1.later hB) (h2.later hB))
    rw [hR.out] at HT
    have e : trV 0 g gm = trV 0 g gm := rfl
    simp [trV] at hb
    obtain ⟨a0, n0, rfl, hl1, hl2⟩ := row_shape h
    clear h hr hc h1 h2 hR
    go_enter Try.func95, Try.ntmps95
    go_wp2_with fail
    refine (HT.out _ (by (repeat (first | with_reducible exact Below.refl _ _ | with_reducible assumption | with_reducible refine balloc ?_ _ | with_reducible refine bdrew ?_ | with_reducible refine below_drewN ?_ _ | with_reducible refine bset ?_ ?_ _ | with_reducible exact Nat.le_refl _ | with_reducible refine bsize ?_ | (dsimp only; refine Nat.le_trans ?_ (Nat.le_add_right _ _)) | with_reducible refine Nat.le_trans ?_ (Nat.le_add_right _ _) | (with_reducible refine bstep ?_ (by assumption)))))).mono ?_
    rintro e w1 ⟨rfl, hb1⟩
    go_wp2
    go_ret
    exact ⟨rfl, by (repeat (first | with_reducible exact Below.refl _ _ | with_reducible assumption | with_reducible refine balloc ?_ _ | with_reducible refine bdrew ?_ | with_reducible refine below_drewN ?_ _ | with_reducible refine bset ?_ ?_ _ | with_reducible exact Nat.le_refl _ | with_reducible refine bsize ?_ | (dsimp only; refine Nat.le_trans ?_ (Nat.le_add_right _ _)) | with_reducible refine Nat.le_trans ?_ (Nat.le_add_right _ _) | (with_reducible refine bstep ?_ (by assumption))))⟩
  · have HT := Lib.hid (fun W (hB : Below w.heap.size w W) => tri_3 m a b m1 m2 hc g gm v ws hr W (rowG_below h hB) (h1.later hB) (h2.later hB))
    rw [hR.out] at HT
    have e : trV 0 g gm = trV 0 g gm := rfl
    simp [trV] at hb
    obtain ⟨a0, n0, rfl, hl1, hl2⟩ := row_shape h
    clear h hr hc h1 h2 hR
    go_enter Try.func95, Try.ntmps95
    go_wp2_with fail
    refine (HT.out _ (by (repeat (first | with_reducible exact Below.refl _ _ | with_reducible assumption | with_reducible refine balloc ?_ _ | with_reducible refine bdrew ?_ | with_reducible refine below_drewN ?_ _ | with_reducible refine bset ?_ ?_ _ | with_reducible exact Nat.le_refl _ | with_reducible refine bsize ?_ | (dsimp only; refine Nat.le_trans ?_ (Nat.le_add_right _ _)) | with_reducible refine Nat.le_trans ?_ (Nat.le_add_right _ _) | (with_reducible refine bstep ?_ (by assumption)))))).mono ?_
    rintro e w1 ⟨rfl, hb1⟩
    go_wp2
    go_ret
    exact ⟨rfl, by (repeat (first | with_reducible exact Below.refl _ _ | with_reducible assumption | with_reducible refine balloc ?_ _ | with_reducible refine bdrew ?_ | with_reducible refine below_drewN ?_ _ | with_reducible refine bset ?_ ?_ _ | with_reducible exact Nat.le_refl _ | with_reducible refine bsize ?_ | (dsimp only; refine Nat.le_trans ?_ (Nat.le_add_right _ _)) | with_reducible refine Nat.le_trans ?_ (Nat.le_add_right _ _) | (with_reducible refine bstep ?_ (by assumption))))⟩
  · have HT := Lib.hid (fun W (hB : Below w.heap.size w W) => tri_4 m a b m1 m2 hc g gm v ws hr W (rowG_below h hB) (h1.later hB) (h2.later hB))
    rw [hR.out] at HT
    have e : trV 0 g gm = trV 0 g gm := rfl
    simp [trV] at hb
    obtain ⟨a0, n0, rfl, hl1, hl2⟩ := row_shape h
    clear h hr hc h1 h2 hR
    go_enter Try.func95, Try.ntmps95
    go_wp2_with fail
    refine (HT.out _ (by (repeat (first | with_reducible exact Below.refl _ _ | with_reducible assumption | with_reducible refine balloc ?_ _ | with_reducible refine bdrew ?_ | with_reducible refine below_drewN ?_ _ | with_reducible refine bset ?_ ?_ _ | with_reducible exact Nat.le_refl _ | with_reducible refine bsize ?_ | (dsimp only; refine Nat.le_trans ?_ (Nat.le_add_right _ _)) | with_reducible refine Nat.le_trans ?_ (Nat.le_add_right _ _) | (with_reducible refine bstep ?_ (by assumption)))))).mono ?_
    rintro e w1 ⟨rfl, hb1⟩
    go_wp2
    go_ret
    exact ⟨rfl, by (repeat (first | with_reducible exact Below.refl _ _ | with_reducible assumption | with_reducible refine balloc ?_ _ | with_reducible refine bdrew ?_ | with_reducible refine below_drewN ?_ _ | with_reducible refine bset ?_ ?_ _ | with_reducible exact Nat.le_refl _ | with_reducible refine bsize ?_ | (dsimp only; refine Nat.le_trans ?_ (Nat.le_add_right _ _)) | with_reducible refine Nat.le_trans ?_ (Nat.le_add_right _ _) | (with_reducible refine bstep ?_ (by assumption))))⟩
  · have HT := Lib.hid (fun W (hB : Below w.heap.size w W) => tri_5 m a b m1 m2 hc g gm v ws hr W (rowG_below h hB) (h1.later hB) (h2.later hB))
    rw [hR.out] at HT
    have e : trV 0 g gm = trV 0 g gm := rfl
    simp [trV] at hb
    obtain ⟨a0, n0, rfl, hl1, hl2⟩ := row_shape h
    clear h hr hc h1 h2 hR
    go_enter Try.func95, Try.ntmps95
    go_wp2_with fail
    refine (HT.out _ (by (repeat (first | with_reducible exact Below.refl _ _ | with_reducible assumption | with_reducible refine balloc ?_ _ | with_reducible refine bdrew ?_ | with_reducible refine below_drewN ?_ _ | with_reducible refine bset ?_ ?_ _ | with_reducible exact Nat.le_refl _ | with_reducible refine bsize ?_ | (dsimp only; refine Nat.le_trans ?_ (Nat.le_add_right _ _)) | with_reducible refine Nat.le_trans ?_ (Nat.le_add_right _ _) | (with_reducible refine bstep ?_ (by assumption)))))).mono ?_
    rintro e w1 ⟨rfl, hb1⟩
    go_wp2
    go_ret
    exact ⟨rfl, by (repeat (first | with_reducible exact Below.refl _ _ | with_reducible assumption | with_reducible refine balloc ?_ _ | with_reducible refine bdrew ?_ | with_reducible refine below_drewN ?_ _ | with_reducible refine bset ?_ ?_ _ | with_reducible exact Nat.le_refl _ | with_reducible refine bsize ?_ | (dsimp only; refine Nat.le_trans ?_ (Nat.le_add_right _ _)) | with_reducible refine Nat.le_trans ?_ (Nat.le_add_right _ _) | (with_reducible refine bstep ?_ (by assumption))))⟩
end Go.Proofs.Ytiafmojmanhdoaa

/- Puzzles: slices.DeleteFunc with a trial, of the program. -/
namespace Go.Proofs.Ytiafmojmanhdoaa
open Go.ChangeShapes Go.WideShapes Go.ChangeAt Go.RowKit Go.Joins
set_option maxRecDepth 100000
set_option linter.unusedVariables false
set_option linter.unusedSimpArgs false

def fitZ (m : Int) (p : ClueV) (q : Value × List Int) : Bool := fitB m p q.2
theorem TrialAt.lk {h0 : Nat} {g : Option Nat} {m : Int} {p : ClueV} {u : Value} {W W' : World} (h : TrialAt m p u W) (hk : LkKeep h0 g W W') (hg : ∀ gg, g = some gg → ∃ cs, Blk gg cs 36 W) : TrialAt m p u W' := by
  obtain ⟨b, bm, h1, h2, e⟩ := h
  have n1 : g ≠ some b := fun e => by
    obtain ⟨cs, hb⟩ := hg _ e
    unfold Blk at h1 hb
    rw [hb] at h1
    injection h1 with h1; injection h1 with _ e2 _
    exact absurd e2 (by decide)
  have n2 : g ≠ some bm := fun e => by
    obtain ⟨cs, hb⟩ := hg _ e
    unfold Blk at h2 hb
    rw [hb] at h2
    injection h2 with h2; injection h2 with _ e2 _
    exact absurd e2 (by decide)
  exact ⟨b, bm, h1.lk hk (by decide) n1, h2.lk hk (by decide) n2, e⟩
/-- What IndexFunc finds: the first list that does not fit. -/
def IdxZ (m : Int) (p : ClueV) (Z : ZL) (i : Int) : Prop :=
  (i = -1 ∧ ∀ q ∈ Z, fitZ m p q = true) ∨ ∃ (j : Nat) (q : Value × List Int), i = j ∧ Z[j]? = some q ∧ fitZ m p q = false ∧ ∀ r ∈ Z.take j, fitZ m p r = true
set_option maxHeartbeats 3200000 in
theorem idxZ_impl (m : Int) (p : ClueV) (m1 : 1 ≤ m) (m2 : m ≤ 10) (hc : clP m p = true) (gb : Nat) (u : Value) (a : Option Addr) (c lo : Nat) (Z : ZL) (hZ : ∀ q ∈ Z, risB m 0 q.2 = true) (W : World) (hR : RowsZ lo W (.slice a Z.length c) Z) (hb : Blk gb #[u] 64 W) (hT : TrialAt m p u W) :
    Calls Try.prog 106 #[.slice a Z.length c, .func (.func 95) #[] #[.pointer (some ⟨gb, 0, none⟩)]] W fun e w' => ∃ i : Int, e = .returned (.int .i64 i) ∧ Hid (IdxZ m p Z i) ∧ Below W.heap.size W w' := by
  obtain ⟨n, hn⟩ : ∃ n, Z.length = n := ⟨_, rfl⟩
  have HN := Lib.hid hn
  have HO := Lib.hid (own_addr hR.out)
  have hcc := own_addr hR.out
  rw [hn] at hcc ⊢
  have hnc := hcc.2.1
  have hcm : c ≤ 9223372036854775807 := by have := hcc.2.2.1; unfold maxLen at this; omega
  have HC := Lib.hid (fun (q : Value × List Int) (hq : q ∈ Z) W' (hB : Below W.heap.size W W') => sift1_impl m p m1 m2 hc gb u q.1 q.2 (hZ q hq) W' ((hR.inn.below hB).read hq (fun x hx => by have := ris_bd (hZ q hq) x hx; omega)) (hT.later hB) (by simpa using (hb.later hB).cell 0))
  have HS := Lib.hid (fun (q : Value × List Int) (hq : q ∈ Z) => owns_shape (hR.inn.row q hq))
  clear hcc hn hR hb hT
  go_enter Try.func106, Try.ntmps106
  go_wp2
  go_loopw [8] (fun i wr => ∃ j : Nat, j ≤ n ∧ i = .int .i64 j ∧ Hid (∀ r ∈ Z.take j, fitZ m p r = true) ∧ Below W.heap.size W wr) (fun i _ => n - (intOf i).toNat)
  case atStart => exact ⟨0, Nat.zero_le _, rfl, Lib.hid (by simp), Below.refl _ _⟩
  case round =>
    obtain ⟨j, hj, rfl, hall, hbel⟩ := hrel
    by_cases hlt : j < n
    · obtain ⟨q, hq⟩ : ∃ q, Z[j]? = some q := ⟨_, List.getElem?_eq_getElem (by rw [HN.out]; exact hlt)⟩
      obtain ⟨ad, rfl⟩ : ∃ ad, a = some ad := by
        cases a with
        | none => have := (HO.out.1 rfl).1; rw [HN.out] at this; omega
        | some ad => exact ⟨ad, rfl⟩
      have hm := List.mem_of_getElem? hq
      have e1 : W.cell? (ad.add j) = some q.1 := HO.out.2.2.2 ad rfl j q.1 (by rw [List.getElem?_map, hq]; rfl)
      have e0 : wr.cell? (ad.add j) = some q.1 := (hbel.cell (cell_lt e1)).trans e1
      have HQ := Lib.hid hq
      have HM := Lib.hid hm
      obtain ⟨sa, sc, hsh⟩ := HS.out q hm
      obtain ⟨qv, ql⟩ := q
      obtain ⟨nq, hnq⟩ : ∃ n, ql.length = n := ⟨_, rfl⟩
      dsimp only at hsh e0
      rw [hnq] at hsh
      subst hsh
      have HCC := Lib.hid (HC.out _ hm)
      clear e1 hq hm hnq
      cases hf : fitZ m p (.slice sa nq sc, ql)
      · have hf' : fitB m p ql = false := hf
        have HF := Lib.hid hf
        rw [hf'] at HCC
        clear hf hf'
        go_wp2_with fail
        refine Calls.mono (HCC.out _ (by (repeat (first | with_reducible exact Below.refl _ _ | with_reducible assumption | with_reducible refine balloc ?_ _ | with_reducible refine bdrew ?_ | with_reducible refine below_drewN ?_ _ | with_reducible refine bset ?_ ?_ _ | with_reducible exact Nat.le_refl _ | with_reducible refine bsize ?_ | (dsimp only; refine Nat.le_trans ?_ (Nat.le_add_right _ _)) | with_reducible refine Nat.le_trans ?_ (Nat.le_add_right _ _) | (with_reducible refine bstep ?_ (by assumption)))))) ?_
        rintro e w2 ⟨rfl, hb2⟩
        go_wp2
        go_ret
        exact ⟨_, rfl, Lib.hid (Or.inr ⟨j, _, rfl, HQ.out, HF.out, hall.out⟩), by (repeat (first | with_reducible exact Below.refl _ _ | with_reducible assumption | with_reducible refine balloc ?_ _ | with_reducible refine bdrew ?_ | with_reducible refine below_drewN ?_ _ | with_reducible refine bset ?_ ?_ _ | with_reducible exact Nat.le_refl _ | with_reducible refine bsize ?_ | (dsimp only; refine Nat.le_trans ?_ (Nat.le_add_right _ _)) | with_reducible refine Nat.le_trans ?_ (Nat.le_add_right _ _) | (with_reducible refine bstep ?_ (by assumption))))⟩
      · have hf' : fitB m p ql = true := hf
        have hnext : Hid (∀ r ∈ Z.take (j + 1), fitZ m p r = true) := by
          refine Lib.hid (fun r hr => ?_)
          rw [List.take_add_one, HQ.out] at hr
          rcases List.mem_append.1 hr with hr | hr
          · exact hall.out r hr
          · simp at hr; subst hr; exact hf
        rw [hf'] at HCC
        clear hf hf' hall
        go_wp2_with fail
        refine Calls.mono (HCC.out _ (by (repeat (first | with_reducible exact Below.refl _ _ | with_reducible assumption | with_reducible refine balloc ?_ _ | with_reducible refine bdrew ?_ | with_reducible refine below_drewN ?_ _ | with_reducible refine bset ?_ ?_ _ | with_reducible exact Nat.le_refl _ | with_reducible refine bsize ?_ | (dsimp only; refine Nat.le_trans ?_ (Nat.le_add_right _ _)) | with_reducible refine Nat.le_trans ?_ (Nat.le_add_right _ _) | (with_reducible refine bstep ?_ (by assumption)))))) ?_
        rintro e w2 ⟨rfl, hb2⟩
        go_wp2
        go_roundw
        case rel => exact ⟨j + 1, by omega, by go_num, hnext, by (repeat (first | with_reducible exact Below.refl _ _ | with_reducible assumption | with_reducible refine balloc ?_ _ | with_reducible refine bdrew ?_ | with_reducible refine below_drewN ?_ _ | with_reducible refine bset ?_ ?_ _ | with_reducible exact Nat.le_refl _ | with_reducible refine bsize ?_ | (dsimp only; refine Nat.le_trans ?_ (Nat.le_add_right _ _)) | with_reducible refine Nat.le_trans ?_ (Nat.le_add_right _ _) | (with_reducible refine bstep ?_ (by assumption))))⟩
        case measure => simp [intOf]; omega
    · have hyes : Hid (∀ r ∈ Z, fitZ m p r = true) := by
        have := hall.out
        rw [List.take_of_length_le (by rw [HN.out]; omega)] at this
        exact this
      clear hall
      go_wp2
      go_ret
      exact ⟨_, rfl, Lib.hid (Or.inl ⟨rfl, hyes.out⟩), hbel⟩
theorem own_clear {base : Nat} {e : TypeId} {g n c i : Nat} : ∀ (vs : List Value) (o : Nat) (w : World) (cur : List Value), w.ownsRow base e 1 (.slice (some ⟨g, 0, none⟩) n c) n cur → i ≤ o →
    ∃ cur', (w.setCells g o vs).ownsRow base e 1 (.slice (some ⟨g, 0, none⟩) n c) n cur' ∧ cur'.take i = cur.take i ∧ w.grownBy (w.setCells g o vs) (some g)
  | [], o, w, cur, h, _ => ⟨cur, h, rfl, ⟨rfl, rfl, rfl, Nat.le_refl _, fun _ _ _ => rfl⟩⟩
  | v :: vs, o, w, cur, h, hi => by
    obtain ⟨h1, h2⟩ := h.stored o v
    obtain ⟨cur', h3, h4, h5⟩ := own_clear (i := i) vs (o + 1) (w.setCell ⟨g, o, none⟩ v) (cur.set o v) h1 (by omega)
    exact ⟨cur', h3, by rw [h4, List.take_set_of_le hi], grown_trans h2 h5⟩
theorem own_cut {base : Nat} {e : TypeId} {g n c i : Nat} {w : World} {cur : List Value} (h : w.ownsRow base e 1 (.slice (some ⟨g, 0, none⟩) n c) n cur) (hi : i ≤ n) : w.ownsRow base e 1 (.slice (some ⟨g, 0, none⟩) i c) i (cur.take i) := by
  obtain ⟨h1, h2⟩ := h
  refine ⟨by rw [List.length_take]; omega, ?_⟩
  rcases h2 with ⟨hv, _⟩ | ⟨g', cap, cu, hv, hb, hc, hnc, hcm, hcs, ht⟩
  · injection hv with e1; cases e1
  · simp only [Value.slice.injEq, Option.some.injEq, Addr.mk.injEq, and_true, true_and] at hv
    obtain ⟨rfl, rfl⟩ := hv
    refine Or.inr ⟨g, c, cu, rfl, hb, hc, by omega, hcm, hcs, ?_⟩
    rw [← ht, List.take_take]
    congr 1
    omega
theorem own_cells {base : Nat} {e : TypeId} {g n c : Nat} {w : World} {cur : List Value} (h : w.ownsRow base e 1 (.slice (some ⟨g, 0, none⟩) n c) n cur) {j : Nat} (hj : j < n) : (∃ x, cur[j]? = some x ∧ w.cell? ⟨g, j, none⟩ = some x) ∧ w.frozen? ⟨g, j, none⟩ = false := by
  have hl := h.1
  obtain ⟨x, hx⟩ : ∃ x, cur[j]? = some x := ⟨_, List.getElem?_eq_getElem (by omega)⟩
  have h2 := h.cells (g := g) rfl j x hx
  rw [Addr.add_lit, Nat.zero_add] at h2
  refine ⟨⟨x, hx, h2⟩, ?_⟩
  rcases h.2 with ⟨hv, _⟩ | ⟨g', cap, cu, hv, hb, hc, _⟩
  · injection hv with e1; cases e1
  · simp only [Value.slice.injEq, Option.some.injEq, Addr.mk.injEq, and_true, true_and] at hv
    obtain ⟨rfl, rfl⟩ := hv
    simp [World.frozen?, hc]
/-- What is kept so far, and what is not yet looked at. -/
structure DelAt (m : Int) (p : ClueV) (Z : ZL) (j i : Nat) (cur : List Value) : Prop where
  len : ((Z.take j).filter (fitZ m p)).length = i
  low : cur.take i = ((Z.take j).filter (fitZ m p)).map Prod.fst
  high : ∀ l, j ≤ l → cur[l]? = (Z.map Prod.fst)[l]?
  lt : i < j
theorem DelAt.keep {m : Int} {p : ClueV} {Z : ZL} {j i : Nat} {cur : List Value} (h : DelAt m p Z j i cur) {q : Value × List Int} (hq : Z[j]? = some q) (hf : fitZ m p q = true) (hl : cur.length = Z.length) : DelAt m p Z (j + 1) (i + 1) (cur.set i q.1) := by
  have hj := (List.getElem?_eq_some_iff.1 hq).1
  have h1 := h.lt
  have e : (Z.take (j + 1)).filter (fitZ m p) = (Z.take j).filter (fitZ m p) ++ [q] := by
    rw [List.take_add_one, hq, List.filter_append]; simp [hf]
  refine ⟨by rw [e, List.length_append, h.len]; rfl, ?_, fun l hl2 => ?_, by omega⟩
  · rw [e, List.map_append, ← h.low, List.take_add_one, List.take_set_of_le (Nat.le_refl _), List.getElem?_set_self (by omega)]; rfl
  · rw [List.getElem?_set_ne (by omega)]; exact h.high l (by omega)
theorem DelAt.skip {m : Int} {p : ClueV} {Z : ZL} {j i : Nat} {cur : List Value} (h : DelAt m p Z j i cur) {q : Value × List Int} (hq : Z[j]? = some q) (hf : fitZ m p q = false) : DelAt m p Z (j + 1) i cur := by
  have h1 := h.lt
  have e : (Z.take (j + 1)).filter (fitZ m p) = (Z.take j).filter (fitZ m p) := by
    rw [List.take_add_one, hq, List.filter_append]; simp [hf]
  exact ⟨by rw [e]; exact h.len, by rw [e]; exact h.low, fun l hl => h.high l (by omega), by omega⟩
theorem DelAt.start {m : Int} {p : ClueV} {Z : ZL} {j : Nat} {q : Value × List Int} (hq : Z[j]? = some q) (hf : fitZ m p q = false) (hall : ∀ r ∈ Z.take j, fitZ m p r = true) : DelAt m p Z (j + 1) j (Z.map Prod.fst) := by
  have hj := (List.getElem?_eq_some_iff.1 hq).1
  have e0 : (Z.take j).filter (fitZ m p) = Z.take j := List.filter_eq_self.2 hall
  have e : (Z.take (j + 1)).filter (fitZ m p) = Z.take j := by
    rw [List.take_add_one, hq, List.filter_append, e0]; simp [hf]
  exact ⟨by rw [e, List.length_take]; omega, by rw [e, List.map_take], fun l _ => rfl, by omega⟩
theorem zeroSI (w : World) : (zeroValue 24).run Try.prog w = .ok (.slice none 0 0) w := by rfl
set_option maxHeartbeats 6400000 in
theorem del_impl (m : Int) (p : ClueV) (m1 : 1 ≤ m) (m2 : m ≤ 10) (hc : clP m p = true) (gb : Nat) (u : Value) (a : Option Addr) (c lo : Nat) (Z : ZL) (hZ : ∀ q ∈ Z, risB m 0 q.2 = true) (W : World) (hlo : lo ≤ W.heap.size) (hR : RowsZ lo W (.slice a Z.length c) Z) (hb : Blk gb #[u] 64 W) (hT : TrialAt m p u W) :
    Calls Try.prog 94 #[.slice a Z.length c, .func (.func 95) #[] #[.pointer (some ⟨gb, 0, none⟩)]] W fun e w' => ∃ v', e = .returned v' ∧ RowsZ lo w' v' (Z.filter (fitZ m p)) ∧ LkKeep lo none W w' := by
  have HI := Lib.hid (idxZ_impl m p m1 m2 hc gb u a c lo Z hZ W hR hb hT)
  obtain ⟨n, hn⟩ : ∃ n, Z.length = n := ⟨_, rfl⟩
  have HN := Lib.hid hn
  have hcc := own_addr hR.out
  rw [hn] at hcc HI ⊢
  have hnc := hcc.2.1
  have hcm : c ≤ 9223372036854775807 := by have := hcc.2.2.1; unfold maxLen at this; omega
  have HR := Lib.hid hR
  have HC := Lib.hid (fun (q : Value × List Int) (hq : q ∈ Z) W' (hB : LkKeep lo none W W') => sift1_impl m p m1 m2 hc gb u q.1 q.2 (hZ q hq) W' ((hR.inn.lk hB (fun g e => by cases e)).read hq (fun x hx => by have := ris_bd (hZ q hq) x hx; omega)) (hT.lk hB (fun g e => by cases e)) (by simpa using (hb.lk hB (by decide) (by simp)).cell 0))
  have HS := Lib.hid (fun (q : Value × List Int) (hq : q ∈ Z) => owns_shape (hR.inn.row q hq))
  have hz := zeroSI
  clear hcc hn hR hb hT
  go_enter Try.func94, Try.ntmps94
  go_wp2_with fail
  refine Calls.mono HI.out ?_
  rintro e w1 ⟨i, rfl, hi, hb1⟩
  rcases hi.out with ⟨rfl, hall⟩ | ⟨j0, q0, rfl, hq0, hf0, hall⟩
  · have hfz : Z.filter (fitZ m p) = Z := List.filter_eq_self.2 hall
    have HF := Lib.hid hfz
    clear hi hall hfz
    go_wp2
    go_ret
    refine ⟨_, rfl, ?_, LkKeep.of hb1 hlo⟩
    rw [HF.out, ← HN.out]
    exact HR.out.below hb1
  · have hst := Lib.hid (DelAt.start hq0 hf0 hall)
    have hj0 : j0 < n := by rw [← HN.out]; exact (List.getElem?_eq_some_iff.1 hq0).1
    have hown := (HR.out.below hb1).out
    rw [HN.out] at hown
    obtain ⟨g, rfl⟩ : ∃ g, a = some ⟨g, 0, none⟩ := by
      rcases hown.2 with ⟨_, h⟩ | ⟨g, cap, cur, hv, _⟩
      · omega
      · injection hv with e1; exact ⟨g, e1⟩
    clear hi hq0 hf0 hall
    have hne1 : ((j0 : Int) == -1) = false := beq_eq_false_iff_ne.2 (by omega)
    go_wp2
    go_loopw [5, 6, 7] (fun x y _ wr => ∃ (i j : Nat) (cur : List Value), x = .int .i64 i ∧ y = .int .i64 j ∧ i < j ∧ j ≤ n ∧ Hid (DelAt m p Z j i cur) ∧ wr.ownsRow lo 24 1 (.slice (some ⟨g, 0, none⟩) n c) n cur ∧ LkKeep lo none W wr) (fun _ y _ _ => n - (intOf y).toNat)
    case atStart => exact ⟨j0, j0 + 1, _, rfl, by go_num, by omega, by omega, hst, hown, LkKeep.of hb1 hlo⟩
    case round =>
      obtain ⟨i, j, cur, rfl, rfl, hij, hjn, hD, hown6, hk6⟩ := hrel
      clear hown hst
      by_cases hlt : j < n
      · obtain ⟨q, hq⟩ : ∃ q, Z[j]? = some q := ⟨_, List.getElem?_eq_getElem (by rw [HN.out]; exact hlt)⟩
        have hm := List.mem_of_getElem? hq
        obtain ⟨⟨x, hx, cj⟩, _⟩ := own_cells hown6 (j := j) hlt
        have hxq : x = q.1 := by
          have h1 := hD.out.high j (Nat.le_refl _)
          rw [hx, List.getElem?_map, hq] at h1
          injection h1
        subst hxq
        obtain ⟨⟨old, _, ci⟩, fi⟩ := own_cells hown6 (j := i) (by omega)
        have HQ := Lib.hid hq
        obtain ⟨sa, sc, hsh⟩ := HS.out q hm
        obtain ⟨qv, ql⟩ := q
        obtain ⟨nq, hnq⟩ : ∃ n, ql.length = n := ⟨_, rfl⟩
        dsimp only at hsh cj
        rw [hnq] at hsh
        subst hsh
        have HCC := Lib.hid (HC.out _ hm)
        clear hx hq hm hnq
        cases hf : fitZ m p (.slice sa nq sc, ql)
        · have hf' : fitB m p ql = false := hf
          have hnext := Lib.hid (hD.out.skip HQ.out hf)
          rw [hf'] at HCC
          clear hf hf'
          go_wp2_with fail
          refine Calls.mono (HCC.out _ hk6) ?_
          rintro e w2 ⟨rfl, hb2⟩
          have hown2 := ownsRow_below hown6 hb2
          have hk2 := hk6.trans (LkKeep.of hb2 (Nat.le_trans hlo hk6.size))
          go_wp2
          go_roundw
          case rel => exact ⟨i, j + 1, cur, rfl, by go_num, by omega, by omega, hnext, hown2, hk2⟩
          case measure => simp [intOf]; omega
        · have hf' : fitB m p ql = true := hf
          have hnext := Lib.hid (hD.out.keep HQ.out hf (by rw [hown6.1, HN.out]; simp))
          rw [hf'] at HCC
          clear hf hf'
          go_wp2_with fail
          refine Calls.mono (HCC.out _ hk6) ?_
          rintro e w2 ⟨rfl, hb2⟩
          have hown2 := ownsRow_below hown6 hb2
          have hk2 := hk6.trans (LkKeep.of hb2 (Nat.le_trans hlo hk6.size))
          obtain ⟨⟨old2, _, ci2⟩, fi2⟩ := own_cells hown2 (j := i) (by omega)
          clear ci fi cj
          go_wp2
          go_roundw
          case rel =>
            obtain ⟨h1, h2⟩ := hown2.stored i (.slice sa nq sc)
            exact ⟨i + 1, j + 1, _, by go_num, by go_num, by omega, by omega, hnext, h1, hk2.trans (LkKeep.grown (v := .slice (some ⟨g, 0, none⟩) n c) h2 hown2 (Nat.le_trans hlo hk2.size))⟩
          case measure => simp [intOf]; omega
      · have hjn2 : j = n := by omega
        subst hjn2
        have hcl : ∀ ty, (Builtin.clear_ #[36] ty #[.slice (some ⟨g, i, none⟩) (j - i) (c - i)]).run Try.prog wr = .ok (.tuple #[]) (wr.setCells g i (List.replicate (j - i) (.slice none 0 0))) :=
          fun ty => Lib.run_clear_slice wr 36 24 ty (.slice none 0 0) Try.underlying36 zeroSI rfl rfl g i _ _ (by omega) (fun t ht => by obtain ⟨⟨x, _, hx⟩, _⟩ := own_cells hown6 (j := i + t) (by omega); rw [hx]; rfl) (fun t ht => (own_cells hown6 (j := i + t) (by omega)).2)
        obtain ⟨cur', h1, h2, h3⟩ := own_clear (i := i) (List.replicate (j - i) (.slice none 0 0)) i wr cur hown6 (Nat.le_refl _)
        have hk7 : LkKeep lo none W (wr.setCells g i (List.replicate (j - i) (.slice none 0 0))) := hk6.trans (LkKeep.grown (v := .slice (some ⟨g, 0, none⟩) j c) h3 hown6 (Nat.le_trans hlo hk6.size))
        have h4 := own_cut h1 (show i ≤ j by omega)
        rw [h2, hD.out.low] at h4
        have hle := hD.out.len
        rw [List.take_of_length_le (by rw [HN.out]; exact Nat.le_refl _)] at h4 hle
        have hfin : RowsZ lo (wr.setCells g i (List.replicate (j - i) (.slice none 0 0))) (.slice (some ⟨g, 0, none⟩) i c) (Z.filter (fitZ m p)) := by
          refine ⟨by rw [hle]; exact h4, ?_⟩
          exact (HR.out.inn.lk hk7 (fun g e => by cases e)).filter _
        have HFIN := Lib.hid hfin
        have HK7 := Lib.hid hk7
        clear hfin hk7 h1 h2 h3 h4 hle hown6 hD
        generalize wr.setCells g i (List.replicate (j - i) (.slice none 0 0)) = w9 at *
        have hic : i < c := by omega
        have hic2 : i ≤ c := by omega
        have hic3 : i ≤ j := by omega
        have hic4 : ¬ c = i := by omega
        have hic5 : ¬ c - i = 0 := by omega
        go_wp2
        go_ret
        exact ⟨_, rfl, HFIN.out, HK7.out⟩
end Go.Proofs.Ytiafmojmanhdoaa

/- Puzzles: all lists of wells, of the program. -/
namespace Go.Proofs.Ytiafmojmanhdoaa
open Go.ChangeShapes Go.WideShapes Go.ChangeAt Go.RowKit Go.Joins
set_option maxRecDepth 100000
set_option linter.unusedVariables false
set_option linter.unusedSimpArgs false

/-- How it ends: the lists, and those that begin with the wells behind them. -/
def EndAdd (h0 : Nat) (Z : ZL) (X : List (List Int)) (W : World) (e : Ending) (w' : World) : Prop :=
  ∃ v' Z', e = .returned v' ∧ RowsZ h0 w' v' (Z ++ Z') ∧ Hid (Z'.map Prod.snd = X) ∧ LkKeep h0 none W w'
set_option maxHeartbeats 6400000 in
theorem add_impl (m : Int) (m1 : 1 ≤ m) (m2 : m ≤ 10) (h0 : Nat) :
    ∀ (k : Nat) (f : Int) (ws : List Int) (u : Value), f + k = m → 1 ≤ f → risB f 0 ws = true → ∀ (W : World) (v : Value) (Z : ZL), h0 ≤ W.heap.size → RowsZ h0 W v Z → W.ownsRow h0 3 1 u ws.length (cellsG fInt ws) → (∀ p ∈ Z, ∀ g, p.1.ownBlock = some g → u.ownBlock ≠ some g) → Z.length + (ws :: wsM k f ws).length ≤ 1024 →
      Calls Try.prog 93 #[v, .int .i64 m, u, .int .i64 f] W (EndAdd h0 Z (ws :: wsM k f ws) W) := by
  obtain ⟨i0, hi, hz0, hz1, hz2⟩ := info_parts infoSI
  obtain ⟨j0, hj0, hy0, hy1, hy2⟩ := info_parts infoInt
  intro k
  induction k using Nat.strongRecOn with
  | ind k ih =>
    intro f ws u hfk hf1 hris W v Z hzW hrows hu hap hlen
    have hrism : risB m 0 ws = true := risB_top (by omega) hris
    have h9 := ris_len9 m2 hrism
    have HU := Lib.hid (fun (W' : World) (hk : LkKeep h0 none W W') => hk.row hu (fun g e => by cases e))
    have HZ := Lib.hid hlen
    have IH := Lib.hid ih
    have HRI := Lib.hid hris
    have HAP := Lib.hid hap
    have HU0 := Lib.hid hu
    have HRW := Lib.hid hrows
    obtain ⟨ua, uc, rfl⟩ := owns_shape hu
    obtain ⟨va, vc, rfl⟩ := owns_shape hrows.out
    obtain ⟨nn, hnn⟩ : ∃ n, ws.length = n := ⟨_, rfl⟩
    have HN := Lib.hid hnn
    obtain ⟨nz, hnz⟩ : ∃ n, Z.length = n := ⟨_, rfl⟩
    have HNZ := Lib.hid hnz
    have hnz2 : nz ≤ 1024 := by rw [← hnz]; simp at hlen; omega
    have huc := (own_addr hu).2
    rw [hnn] at huc h9 ⊢
    rw [hnz]
    clear hrows hu hlen ih hris hrism hap hnn hnz
    have hcap : uc ≤ 9223372036854775807 := by have := huc.2.1; unfold maxLen at this; omega
    have hnc := huc.1
    clear huc
    go_enter Try.func93, Try.ntmps93
    go_wp2_with (at_builtin; refine wpList_append_own _ rfl _ _ 36 rfl h0 24 i0 (.slice none 0 0) 1 24 Try.underlying36 hi hz0 hz1 hz2 rfl (by decide) (.slice va nz vc) nz (Z.map Prod.fst) rfl ?own ⟨W.heap.size, 0, none⟩ 1 1 [.slice ua nn uc] ?c0 rfl ?c1 ?c2 ?c3 ?c4 ?c5 ?_)
    case own => have h := HRW.out.out; rw [HNZ.out] at h; exact h.alloc _
    case c0 => simp [Act.eval, Act.put]
    case c1 => (intro j u hj; rcases j with _ | j <;> simp at hj; subst hj; simp [go_sem]; done)
    case c2 => simp [Value.oneCell']
    case c3 => unfold maxLen; omega
    case c4 => omega
    case c5 => simp; omega
    intro v1 w1 hown1 hgr1 _
    obtain ⟨v5, Z5, hr5, hl5, hm5, hk5⟩ : ∃ v5 Z5, RowsZ h0 w1 v5 (Z ++ Z5) ∧ Hid (Z5.length ≤ 1) ∧ Hid (Z5.map Prod.snd ++ wsM k f ws = ws :: wsM k f ws) ∧ LkKeep h0 none W w1 ∧ v5 = v1 := by
      have hbA : Below W.heap.size W (W.alloc (.cells #[.slice ua nn uc] 24)) := balloc (Below.refl _ _) _
      have hoA : (W.alloc (.cells #[.slice ua nn uc] 24)).ownsRow h0 24 1 (.slice va nz vc) nz (Z.map Prod.fst) := by have h := HRW.out.out; rw [HNZ.out] at h; exact h.alloc _
      have hlk : LkKeep h0 none W w1 := (LkKeep.of hbA hzW).trans (LkKeep.grown hgr1 hoA (by simp; omega))
      refine ⟨v1, [(.slice ua nn uc, ws)], ⟨?_, ?_⟩, Lib.hid (by simp), Lib.hid (by simp), hlk, rfl⟩
      · rw [List.length_append, List.map_append, HNZ.out]; exact hown1
      · have h1 := HRW.out.inn.lk hlk (fun g e => by cases e)
        have h2 := HU.out w1 hlk
        rw [HN.out] at h2
        refine h1.snoc (by rw [HN.out]; exact h2) (by have h := HAP.out; rw [HN.out] at h; exact h)
    obtain ⟨hk5, rfl⟩ := hk5
    clear hown1 hgr1 HAP HRW HU0
    obtain ⟨av5, cv5, hv5⟩ := owns_shape hr5.out
    obtain ⟨n5, hn5⟩ : ∃ n, (Z ++ Z5).length = n := ⟨_, rfl⟩
    rw [hn5] at hv5
    subst hv5
    clear hn5
    go_wp2
    go_loopw [0, 9] (fun l x wr => ∃ (j : Nat) (v6 : Value) (Z6 : ZL), j ≤ k ∧ x = .int .i64 (f + j) ∧ v6 = l ∧ RowsZ h0 wr v6 (Z ++ Z6) ∧ Hid (Z6.map Prod.snd ++ wsM (k - j) (f + j) ws = ws :: wsM k f ws) ∧ LkKeep h0 none W wr) (fun _ x _ => (m - intOf x).toNat)
    case atStart => exact ⟨0, _, Z5, Nat.zero_le _, by simp, rfl, hr5, Lib.hid (by have := hm5.out; simpa using this), hk5⟩
    case round =>
      obtain ⟨j, v6, Z6, hj, rfl, rfl, hr6, hm6, hk6⟩ := hrel
      clear hr5 hm5 hl5 hk5
      obtain ⟨av6, cv6, hv6⟩ := owns_shape hr6.out
      obtain ⟨n6, hn6⟩ : ∃ n, (Z ++ Z6).length = n := ⟨_, rfl⟩
      rw [hn6] at hv6
      subst hv6
      have HR6 := Lib.hid hr6
      clear hr6 hn6
      by_cases hlt : j < k
      · have hfm : f + j < m := by omega
        have hu6 := HU.out wr hk6
        rw [HN.out] at hu6
        have hua := (own_addr hu6).1
        have HUA := Lib.hid (own_addr hu6).2.2.2
        have hlo : Hid ((cellsG fInt ws).length = nn * 1) := Lib.hid (by rw [cellsG_len fInt_len, HN.out])
        clear hu6
        go_wp2_with (at_builtin; refine wpList_append_grows _ rfl _ _ 24 rfl 3 j0 (.int .i64 0) 1 8 Try.underlying24 hj0 hy0 hy1 hy2 rfl (by decide) ua nn nn (cellsG fInt ws) ?c9 ?c8 hlo.out ?c7 ⟨wr.heap.size, 0, none⟩ 1 1 [.int .i64 (f + j)] ?c0 rfl ?c1 ?c2 ?c3 ?c4 ?c5 ?_)
        case c9 => simp [Act.eval, Act.put]
        case c8 => exact fun e => ⟨(hua e).1, (hua e).1⟩
        case c7 => exact fun b e j u hu => ((balloc (Below.refl _ wr) _).cell (cell_lt (HUA.out b e j u hu))).trans (HUA.out b e j u hu)
        case c0 => simp [Act.eval, Act.put]
        case c1 => first | exact cell_one_new _ _ _ | (intro k u hk; match k, hk with | 0, hk => (simp at hk; subst hk; simp [go_sem]))
        case c2 => simp [Value.oneCell']
        case c3 => omega
        case c4 => unfold maxLen; omega
        case c5 => omega
        intro v8 w8 hown8' hgr8
        have hbA : Below wr.heap.size wr (wr.alloc (.cells #[.int .i64 (f + j)] 3)) := balloc (Below.refl _ _) _
        have hbel8 : Below wr.heap.size wr w8 := hbA.grown hgr8 (by simp) (fun g e => by cases e)
        have hown8 : w8.ownsRow wr.heap.size 3 1 v8 (ws ++ [f + (j : Int)]).length (cellsG fInt (ws ++ [f + (j : Int)])) := by
          rw [List.length_append, cellsG_append, HN.out]; exact own_mono hown8' (by simp)
        clear hown8' hgr8 hbA
        have hzr : h0 ≤ wr.heap.size := Nat.le_trans hzW hk6.size
        have hls := Lib.hid (show (wsM (k - j) (f + j) ws) = (ws ++ [f + (j : Int)]) :: wsM (k - j - 1) (f + j + 1) (ws ++ [f + (j : Int)]) ++ wsM (k - j - 1) (f + j + 1) ws by
          rw [show k - j = k - j - 1 + 1 by omega]; exact wsM_succ _ _ _)
        have hlen : Hid ((Z ++ Z6).length + ((ws ++ [f + (j : Int)]) :: wsM (k - j - 1) (f + j + 1) (ws ++ [f + (j : Int)])).length ≤ 1024) := by
          refine Lib.hid ?_
          have h1 := congrArg List.length hm6.out
          have h2 := HZ.out
          rw [hls.out, List.length_append, List.length_append, List.length_map] at h1
          rw [List.length_append]
          omega
        obtain ⟨av8, cv8, hv8⟩ := owns_shape hown8
        have HV8 := Lib.hid (IH.out (k - j - 1) (by omega) (f + j + 1) (ws ++ [f + (j : Int)]) v8 (by omega) (by omega) (ris_snoc (by omega) (risB_top (by omega) HRI.out)) w8 _ (Z ++ Z6) (Nat.le_trans hzr hbel8.size) (HR6.out.below hbel8) (own_mono hown8 hzr) (InR.new (fun p hp g e => HR6.out.inn.lt p hp g e) hown8) hlen.out)
        obtain ⟨n8, hn8⟩ : ∃ n, (ws ++ [f + (j : Int)]).length = n := ⟨_, rfl⟩
        rw [hn8] at hv8
        subst hv8
        clear hown8 hn8
        go_wp2_with fail
        refine Calls.mono HV8.out ?_
        rintro e w9 ⟨v9, Z9, rfl, hr9, hm9, hk9⟩
        obtain ⟨av9, cv9, hv9⟩ := owns_shape hr9.out
        obtain ⟨n9, hn9⟩ : ∃ n, (Z ++ Z6 ++ Z9).length = n := ⟨_, rfl⟩
        rw [hn9] at hv9
        subst hv9
        clear HV8 hn9
        go_wp2
        go_roundw
        case rel =>
          refine ⟨j + 1, _, Z6 ++ Z9, by omega, by go_num, rfl, by rw [← List.append_assoc]; exact hr9, Lib.hid ?_, hk6.trans ((LkKeep.of hbel8 hzr).trans hk9)⟩
          have h1 := hm6.out
          rw [hls.out] at h1
          rw [← h1, List.map_append, hm9.out, List.append_assoc, show k - (j + 1) = k - j - 1 by omega, show f + ((j + 1 : Nat) : Int) = f + j + 1 by omega]
        case measure => simp [intOf]; omega
      · have hjk : j = k := by omega
        have hfin : Hid (Z6.map Prod.snd = ws :: wsM k f ws) := by
          refine Lib.hid ?_
          have h1 := hm6.out
          rw [hjk, Nat.sub_self, wsM_0] at h1
          simpa using h1
        have hr6 := HR6.out
        clear HR6 hm6
        go_wp2
        go_ret
        exact ⟨_, Z6, rfl, hr6, hfin, hk6⟩
end Go.Proofs.Ytiafmojmanhdoaa

/- The door of trials: the closure that recovers. -/
namespace Go.Proofs.Ytiafmojmanhdoaa
open Go.ChangeShapes Go.WideShapes Go.ChangeAt Go.RowKit Go.Joins
set_option maxRecDepth 100000
set_option linter.unusedVariables false
set_option linter.unusedSimpArgs false


theorem ta_yes (v : Value) (w : World) : (Instr.typeAssert (.iface 27 v) 20 27 true).run Try.prog w = .ok (.tuple #[v, .bool true]) w := by
  simp [Instr.typeAssert, go_sem, Try.underlying27]
theorem ta_nil (w : World) : (Instr.typeAssert .nilIface 20 27 true).run Try.prog w = .ok (.tuple #[.agg #[.int .i64 0, .int .i64 0, .int .i64 0], .bool false]) w := by
  simp [Instr.typeAssert, go_sem, Try.underlying27]
set_option maxHeartbeats 1600000 in
theorem door_panicking (P Q : Nat) (sa : Option Addr) (n c : Nat) (y : Bool) (k a b : Int) (older : List PanicEntry) (w : World) (hc : w.cell? ⟨P, 0, none⟩ = some (.slice sa n c)) (hz : w.frozen? ⟨P, 0, none⟩ = false) (hc2 : w.cell? ⟨Q, 0, none⟩ = some (.bool y)) (hz2 : w.frozen? ⟨Q, 0, none⟩ = false) (hne : P ≠ Q) :
    CallsD Try.prog 105 #[.pointer (some ⟨P, 0, none⟩), .pointer (some ⟨Q, 0, none⟩)] (.panicking ({ v := .iface 27 (.agg #[.int .i64 k, .int .i64 a, .int .i64 b]), recovered := false } :: older)) w fun e u' w' =>
      e = .returned (.tuple #[]) ∧ u' = .panicking ({ v := .iface 27 (.agg #[.int .i64 k, .int .i64 a, .int .i64 b]), recovered := true } :: older) ∧ w' = ((w.alloc (.cells #[.int .i64 k, .int .i64 a, .int .i64 b] 27)).setCell ⟨P, 0, none⟩ (.slice none 0 0)).setCell ⟨Q, 0, none⟩ (.bool false) := by
  have hp : P < w.heap.size := cell_lt hc
  have hq : Q < w.heap.size := cell_lt hc2
  have e1 : (w.alloc (.cells #[.int .i64 k, .int .i64 a, .int .i64 b] 27)).cell? ⟨P, 0, none⟩ = some (.slice sa n c) := by rw [World.cell?_alloc_lt _ _ _ hp]; exact hc
  have e2 : (w.alloc (.cells #[.int .i64 k, .int .i64 a, .int .i64 b] 27)).frozen? ⟨P, 0, none⟩ = false := by rw [World.frozen?_alloc_old _ _ _ (by simp; omega)]; exact hz
  have e3 : (w.alloc (.cells #[.int .i64 k, .int .i64 a, .int .i64 b] 27)).cell? ⟨Q, 0, none⟩ = some (.bool y) := by rw [World.cell?_alloc_lt _ _ _ hq]; exact hc2
  have e4 : (w.alloc (.cells #[.int .i64 k, .int .i64 a, .int .i64 b] 27)).frozen? ⟨Q, 0, none⟩ = false := by rw [World.frozen?_alloc_old _ _ _ (by simp; omega)]; exact hz2
  have e5 : ((w.alloc (.cells #[.int .i64 k, .int .i64 a, .int .i64 b] 27)).setCell ⟨P, 0, none⟩ (.slice none 0 0)).cell? ⟨Q, 0, none⟩ = some (.bool y) := by rw [World.cell?_setCell_far _ _ _ _ (by simpa using hne)]; exact e3
  refine callsD_of_wpS Try.func105 rfl fun c₀ cs hu => ?_
  apply wpS_seq
  apply wpS_region
  simp [wpOpsS, go_sem, recoverD, hu, Try.ntmps105, Exit.thenS, ta_yes]
  apply wpS_seq
  apply wpS_region
  simp [wpOpsS, go_sem, Exit.thenS]
  refine wpS_cond (t := true) (by simp [Act.eval, Array.replicate]) ?_
  simp only [if_true]
  apply wpS_region
  simp [wpOpsS, go_sem, e1, e2, e4, e5, bodyPostS, results, Try.results105]
set_option maxHeartbeats 1600000 in
theorem door_idle (P Q : Nat) (w : World) :
    CallsD Try.prog 105 #[.pointer (some ⟨P, 0, none⟩), .pointer (some ⟨Q, 0, none⟩)] .returning w fun e u' w' => e = .returned (.tuple #[]) ∧ u' = .returning ∧ w' = w.alloc (.cells #[.int .i64 0, .int .i64 0, .int .i64 0] 27) := by
  refine callsD_of_wpS Try.func105 rfl fun c₀ cs hu => ?_
  apply wpS_seq
  apply wpS_region
  simp [wpOpsS, go_sem, recoverD, hu, Try.ntmps105, Exit.thenS, ta_nil]
  apply wpS_seq
  apply wpS_region
  simp [wpOpsS, go_sem, Exit.thenS]
  refine wpS_cond (t := false) (by simp [Act.eval, Array.replicate]) ?_
  simp only [Bool.false_eq_true, if_false]
  refine wpS_of_wp (wp_skip ?_)
  cases c₀
  simp_all [bodyPostS, results, Try.results105]
theorem door_pan (w0 : World) (P Q : Nat) (sa : Option Addr) (n c : Nat) (y : Bool) (k a b : Int) (w : World) (hc : w.cell? ⟨P, 0, none⟩ = some (.slice sa n c)) (hz : w.frozen? ⟨P, 0, none⟩ = false) (hc2 : w.cell? ⟨Q, 0, none⟩ = some (.bool y)) (hz2 : w.frozen? ⟨Q, 0, none⟩ = false) (hne : P ≠ Q) (hB : Below w0.heap.size w0 w) (hP : w0.heap.size ≤ P) (hQ : w0.heap.size ≤ Q) :
    CallsD Try.prog 105 #[.pointer (some ⟨P, 0, none⟩), .pointer (some ⟨Q, 0, none⟩)] (.panicking ({ v := .iface 27 (.agg #[.int .i64 k, .int .i64 a, .int .i64 b]), recovered := false } :: [])) w fun e u' w' =>
      e = .returned (.tuple #[]) ∧ u' = .panicking ({ v := .iface 27 (.agg #[.int .i64 k, .int .i64 a, .int .i64 b]), recovered := true } :: []) ∧ w'.cell? ⟨P, 0, none⟩ = some (.slice none 0 0) ∧ w'.cell? ⟨Q, 0, none⟩ = some (.bool false) ∧ Below w0.heap.size w0 w' := by
  refine (door_panicking P Q sa n c y k a b [] w hc hz hc2 hz2 hne).mono ?_
  rintro e u' w' ⟨he, hu, hw⟩
  have hp : P < w.heap.size := cell_lt hc
  have hq : Q < w.heap.size := cell_lt hc2
  have e1 : (w.alloc (.cells #[.int .i64 k, .int .i64 a, .int .i64 b] 27)).cell? ⟨P, 0, none⟩ = some (.slice sa n c) := by rw [World.cell?_alloc_lt _ _ _ hp]; exact hc
  have e3 : (w.alloc (.cells #[.int .i64 k, .int .i64 a, .int .i64 b] 27)).cell? ⟨Q, 0, none⟩ = some (.bool y) := by rw [World.cell?_alloc_lt _ _ _ hq]; exact hc2
  have e5 : ((w.alloc (.cells #[.int .i64 k, .int .i64 a, .int .i64 b] 27)).setCell ⟨P, 0, none⟩ (.slice none 0 0)).cell? ⟨Q, 0, none⟩ = some (.bool y) := by rw [World.cell?_setCell_far _ _ _ _ (by simpa using hne)]; exact e3
  have e6 : ((w.alloc (.cells #[.int .i64 k, .int .i64 a, .int .i64 b] 27)).setCell ⟨P, 0, none⟩ (.slice none 0 0)).cell? ⟨P, 0, none⟩ = some (.slice none 0 0) := World.cell?_setCell_same' _ _ _ (by rw [e1]; rfl)
  refine ⟨he, hu, ?_, ?_, ?_⟩
  · rw [hw, World.cell?_setCell_far _ _ _ _ (by simpa using (fun e => hne e.symm : Q ≠ P))]; exact e6
  · rw [hw]; exact World.cell?_setCell_same' _ _ _ (by rw [e5]; rfl)
  · rw [hw]; exact bset (bset (balloc hB _) (by simpa using hP) _) (by simpa using hQ) _
theorem door_idl (P Q : Nat) (w : World) :
    CallsD Try.prog 105 #[.pointer (some ⟨P, 0, none⟩), .pointer (some ⟨Q, 0, none⟩)] .returning w fun e u' w' => e = .returned (.tuple #[]) ∧ u' = .returning ∧ Below w.heap.size w w' := by
  refine (door_idle P Q w).mono ?_
  rintro e u' w' ⟨he, hu, hw⟩
  exact ⟨he, hu, by rw [hw]; exact balloc (Below.refl _ _) _⟩
end Go.Proofs.Ytiafmojmanhdoaa

/- The trials of a puzzle, of the program. -/
namespace Go.Proofs.Ytiafmojmanhdoaa
open Go.ChangeShapes Go.WideShapes Go.ChangeAt Go.RowKit Go.Joins
set_option maxRecDepth 100000
set_option linter.unusedVariables false
set_option linter.unusedSimpArgs false


/-- A panic of a region is told by the world alone. -/
def PanicTo (Φ : World → Prop) (c0 : List PanicEntry) (D : List Deferred) (x y : Value) (Q : Exit → Act → World → Prop) : Exit → Act → World → Prop
  | .panic c, a, w => c = c0 ∧ Φ w ∧ a.defers = D ∧ a.tmps[2]? = some x ∧ a.tmps[3]? = some y
  | e, a, w => Q e a w
theorem PanicTo.put {Φ : World → Prop} {c0 : List PanicEntry} {D : List Deferred} {x y : Value} {Q : Exit → Act → World → Prop} {i : Nat} (h2 : i ≠ 2) (h3 : i ≠ 3) {c : List PanicEntry} {a : Act} {v : Value} {w : World}
    (h : PanicTo Φ c0 D x y Q (.panic c) (a.put (some i) v) w) : PanicTo Φ c0 D x y Q (.panic c) a w := by
  obtain ⟨e, hp, hd, e2, e3⟩ := h
  refine ⟨e, hp, hd, ?_, ?_⟩
  · rw [← e2]; simp [Act.put, Array.getElem?_setIfInBounds_ne h2]
  · rw [← e3]; simp [Act.put, Array.getElem?_setIfInBounds_ne h3]
theorem wp_region_panicTo {P : Program} {id : Nat} {ops : Array Oper} {b : Bool} {Q : Exit → Act → World → Prop} {a : Act} {w : World} (Φ : World → Prop) (c0 : List PanicEntry) (D : List Deferred) (x y : Value)
    (hQ : ∀ a w, Φ w → a.defers = D → a.tmps[2]? = some x → a.tmps[3]? = some y → Q (.panic c0) a w) (h : (Code.region id ops b).wp P (PanicTo Φ c0 D x y Q) a w) : (Code.region id ops b).wp P Q a w :=
  Code.wp_mono (fun e a w hh => by
    cases e
    case panic c =>
      obtain ⟨rfl, h1, h2, h3, h4⟩ := hh
      exact hQ a w h1 h2 h3 h4
    all_goals exact hh) h
theorem infoTrial : (Try.prog.info? 64).map (fun i => (i.zero, i.size, i.bytes)) = some (some .nilFunc, 1, 8) := by kernel_rfl
/-- How trials end. -/
def EndTr (m : Int) (l : List ClueV) (w : World) (e : Ending) (w' : World) : Prop :=
  ∃ v, e = .returned (.tuple #[v, .bool (pzB m l)]) ∧ Below w.heap.size w w' ∧
    (pzB m l = true → ∃ vs : List Value, w'.ownsRow w.heap.size 64 1 v l.length vs ∧ ∀ (i : Nat) (p : ClueV), l[i]? = some p → ∃ u, vs[i]? = some u ∧ TrialAt m p u w') ∧ (pzB m l = false → v = .slice none 0 0)
/-- The variables of trials in the world W: the puzzle, the trials, the answer. -/
theorem TrialAt.put {m : Int} {p : ClueV} {u : Value} {W : World} (h : TrialAt m p u W) {b n c : Nat} {sa : Option Addr} (hc : W.cell? ⟨b, 0, none⟩ = some (.slice sa n c)) (v' : Value) : TrialAt m p u (W.setCell ⟨b, 0, none⟩ v') := by
  obtain ⟨g, gm, h1, h2, e⟩ := h
  refine ⟨g, gm, h1.set (fun e => ?_) _, h2.set (fun e => ?_) _, e⟩
  · change b = g at e
    subst e
    rw [h1.cell 0] at hc
    simp at hc
  · change b = gm at e
    subst e
    rw [h2.cell 0] at hc
    simp at hc
theorem TrialAt.putB {m : Int} {p : ClueV} {u : Value} {W : World} (h : TrialAt m p u W) {b : Nat} {y : Bool} (hc : W.cell? ⟨b, 0, none⟩ = some (.bool y)) (v' : Value) : TrialAt m p u (W.setCell ⟨b, 0, none⟩ v') := by
  obtain ⟨g, gm, h1, h2, e⟩ := h
  refine ⟨g, gm, h1.set (fun e => ?_) _, h2.set (fun e => ?_) _, e⟩
  · change b = g at e
    subst e
    rw [h1.cell 0] at hc
    simp at hc
  · change b = gm at e
    subst e
    rw [h2.cell 0] at hc
    simp at hc
structure TrSt (h : Nat) (m : Int) (v : Value) (W : World) : Prop where
  c0 : W.cell? ⟨h, 0, none⟩ = some (.int .i64 m)
  c1 : W.cell? ⟨h + 1, 0, none⟩ = some v
  c2 : W.cell? ⟨h + 1 + 1, 0, none⟩ = some (.bool false)
  z1 : W.frozen? ⟨h + 1, 0, none⟩ = false
  z2 : W.frozen? ⟨h + 1 + 1, 0, none⟩ = false
  hs : h + 1 + 1 < W.heap.size
theorem TrSt.later {h : Nat} {m : Int} {v : Value} {W W' : World} (s : TrSt h m v W) (hb : Below W.heap.size W W') : TrSt h m v W' := by
  have q0 : h < W.heap.size := by have := s.hs; omega
  have q1 : h + 1 < W.heap.size := by have := s.hs; omega
  have q2 : h + 1 + 1 < W.heap.size := s.hs
  exact ⟨keepa hb q0 s.c0, keepa hb q1 s.c1, keepa hb q2 s.c2, keepf hb q1 s.z1, keepf hb q2 s.z2, Nat.lt_of_lt_of_le q2 hb.size⟩
theorem TrSt.grown {h : Nat} {m : Int} {v : Value} {W W' : World} (s : TrSt h m v W) {row : Option Nat} (hg : W.grownBy W' row) (hr : ∀ k, row = some k → h + 1 + 1 < k) : TrSt h m v W' := by
  have n0 : some h ≠ row := fun e => by have := hr h e.symm; omega
  have n1 : some (h + 1) ≠ row := fun e => by have := hr _ e.symm; omega
  have n2 : some (h + 1 + 1) ≠ row := fun e => by have := hr _ e.symm; omega
  have hz := s.hs
  exact ⟨hg.cell s.c0 n0, hg.cell s.c1 n1, hg.cell s.c2 n2, grown_frozen hg s.z1 (by simp; omega) n1, grown_frozen hg s.z2 (by simp; omega) n2, Nat.lt_of_lt_of_le s.hs hg.size⟩
theorem TrSt.put {h : Nat} {m : Int} {v v' : Value} {W : World} (s : TrSt h m v W) : TrSt h m v' (W.setCell ⟨h + 1, 0, none⟩ v') := by
  refine ⟨?_, ?_, ?_, ?_, ?_, ?_⟩
  · rw [World.cell?_setCell_far _ _ _ _ (by simp)]; exact s.c0
  · exact World.cell?_setCell_same' _ _ _ (by rw [s.c1]; rfl)
  · rw [World.cell?_setCell_far _ _ _ _ (by simp)]; exact s.c2
  · rw [World.frozen?_setCell]; exact s.z1
  · rw [World.frozen?_setCell]; exact s.z2
  · have := s.hs; simpa using this

set_option maxHeartbeats 3200000 in
theorem trials_no (m : Int) (bm : (-9223372036854775808 ≤ m ∧ m ≤ 9223372036854775807)) (a0 : Option Addr) (n c0 : Nat) (l : List ClueV) (hln : n = l.length) (w : World) (hl1 : n ≤ c0) (hl2 : c0 ≤ 9223372036854775807) (h : miB m = false ∨ (miB m = true ∧ ¬ n ≤ 8)) :
    Calls Try.prog 92 #[.agg #[.int .i64 m, .slice a0 n c0]] w (EndTr m l w) := by
  have hmf : ∀ (fn : Fn) (first cap : Array Value) (w : World), (Instr.makeFunc fn first cap).run Try.prog w = .ok (.func fn first cap) w := fun _ _ _ _ => rfl
  have hno : pzB m l = false := by
    rcases h with h | h
    · exact pzB_no1 h
    · exact pzB_no2 (by rw [← hln]; exact h.2)
  unfold EndTr
  rw [hno]
  rcases h with h1 | ⟨h1, h2⟩
  · -- no puzzle, told at once
    go_enter_defers Try.func92, Try.ntmps92
    go_wp2_with (go_at_call 80; refine (mi_impl _ _).mono ?_; rintro e w1 ⟨rfl, rfl⟩; rw [h1])
    refine leaves_cons (f := 105) (args := #[.pointer (some ⟨w.heap.size + 1, 0, none⟩), .pointer (some ⟨w.heap.size + 1 + 1, 0, none⟩)]) (by simp) (by simp [go_sem]) ?_
    refine (door_idle _ _ _).mono ?_
    rintro e u' w'' ⟨rfl, rfl, rfl⟩
    simp [Leaves, settle, results, Try.results92, go_sem]
    (repeat (first | with_reducible exact Below.refl _ _ | with_reducible assumption | with_reducible refine balloc ?_ _ | with_reducible refine bdrew ?_ | with_reducible refine below_drewN ?_ _ | with_reducible refine bset ?_ ?_ _ | with_reducible exact Nat.le_refl _ | with_reducible refine bsize ?_ | (dsimp only; refine Nat.le_trans ?_ (Nat.le_add_right _ _)) | with_reducible refine Nat.le_trans ?_ (Nat.le_add_right _ _) | (with_reducible refine bstep ?_ (by assumption))))
  · -- no puzzle, told at once
    go_enter_defers Try.func92, Try.ntmps92
    go_wp2_with (go_at_call 80; refine (mi_impl _ _).mono ?_; rintro e w1 ⟨rfl, rfl⟩; rw [h1])
    refine leaves_cons (f := 105) (args := #[.pointer (some ⟨w.heap.size + 1, 0, none⟩), .pointer (some ⟨w.heap.size + 1 + 1, 0, none⟩)]) (by simp) (by simp [go_sem]) ?_
    refine (door_idle _ _ _).mono ?_
    rintro e u' w'' ⟨rfl, rfl, rfl⟩
    simp [Leaves, settle, results, Try.results92, go_sem]
    (repeat (first | with_reducible exact Below.refl _ _ | with_reducible assumption | with_reducible refine balloc ?_ _ | with_reducible refine bdrew ?_ | with_reducible refine below_drewN ?_ _ | with_reducible refine bset ?_ ?_ _ | with_reducible exact Nat.le_refl _ | with_reducible refine bsize ?_ | (dsimp only; refine Nat.le_trans ?_ (Nat.le_add_right _ _)) | with_reducible refine Nat.le_trans ?_ (Nat.le_add_right _ _) | (with_reducible refine bstep ?_ (by assumption))))
set_option maxHeartbeats 3200000 in
theorem trials_nil (m : Int) (bm : (-9223372036854775808 ≤ m ∧ m ≤ 9223372036854775807)) (w : World) (h1 : miB m = true) :
    Calls Try.prog 92 #[.agg #[.int .i64 m, .slice none 0 0]] w (EndTr m [] w) := by
  have hmf : ∀ (fn : Fn) (first cap : Array Value) (w : World), (Instr.makeFunc fn first cap).run Try.prog w = .ok (.func fn first cap) w := fun _ _ _ _ => rfl
  have hyes : pzB m [] = true := pzB_all h1 (by simp) (by simp)
  unfold EndTr
  rw [hyes]
  go_enter_defers Try.func92, Try.ntmps92
  go_wp2_with (go_at_call 80; refine (mi_impl _ _).mono ?_; rintro e w1 ⟨rfl, rfl⟩; rw [h1])
  go_loopw [20] (fun i wr => i = .int .i64 0 ∧ wr = ((w.alloc (.cells #[.int .i64 m, .slice none 0 0] 41)).alloc (.cells #[.slice none 0 0] 89)).alloc (.cells #[.bool false] 4)) (fun _ _ => 0)
  case atStart => exact ⟨rfl, rfl⟩
  case round =>
    obtain ⟨rfl, rfl⟩ := hrel
    go_wp2
    refine leaves_cons (f := 105) (args := #[.pointer (some ⟨w.heap.size + 1, 0, none⟩), .pointer (some ⟨w.heap.size + 1 + 1, 0, none⟩)]) (by simp) (by simp [go_sem]) ?_
    refine (door_idle _ _ _).mono ?_
    rintro e u' w'' ⟨rfl, rfl, rfl⟩
    simp [Leaves, settle, results, Try.results92, go_sem]
    exact ⟨by (repeat (first | with_reducible exact Below.refl _ _ | with_reducible assumption | with_reducible refine balloc ?_ _ | with_reducible refine bdrew ?_ | with_reducible refine below_drewN ?_ _ | with_reducible refine bset ?_ ?_ _ | with_reducible exact Nat.le_refl _ | with_reducible refine bsize ?_ | (dsimp only; refine Nat.le_trans ?_ (Nat.le_add_right _ _)) | with_reducible refine Nat.le_trans ?_ (Nat.le_add_right _ _) | (with_reducible refine bstep ?_ (by assumption)))), [], ⟨rfl, .inl ⟨rfl, rfl⟩⟩⟩
set_option maxHeartbeats 6400000 in
theorem trials_some (m : Int) (bm : (-9223372036854775808 ≤ m ∧ m ≤ 9223372036854775807)) (a : Addr) (cap : Nat) (l : List ClueV) (w : World) (h1 : miB m = true) (h2 : l.length ≤ 8) (hL0 : LiesG 3 fClue w a cap l) :
    Calls Try.prog 92 #[.agg #[.int .i64 m, .slice (some a) l.length cap]] w (EndTr m l w) := by
  have hmf : ∀ (fn : Fn) (first cap : Array Value) (w : World), (Instr.makeFunc fn first cap).run Try.prog w = .ok (.func fn first cap) w := fun _ _ _ _ => rfl
  have hm := miB_yes h1
  obtain ⟨i0, hi, hz0, hz1, hz2⟩ := info_parts infoTrial
  have hlc := hL0.hlc
  have hcap := hL0.hcap
  have hLH := Lib.hid hL0
  clear hL0
  go_enter_defers Try.func92, Try.ntmps92
  go_wp2_with (go_at_call 80; refine (mi_impl _ _).mono ?_; rintro e w1 ⟨rfl, rfl⟩; rw [h1])
  go_loopw [20] (fun i wr => ∃ (k : Nat) (v : Value) (vs : List Value), k ≤ l.length ∧ i = .int .i64 k ∧ Hid (∀ (j : Nat) (p : ClueV), j < k → l[j]? = some p → clP m p = true) ∧ wr.ownsRow (w.heap.size + 1 + 1 + 1) 64 1 v k vs ∧ Hid (∀ (j : Nat) (p : ClueV), j < k → l[j]? = some p → ∃ u, vs[j]? = some u ∧ TrialAt m p u wr) ∧ TrSt w.heap.size m v wr ∧ Below w.heap.size w wr) (fun i _ => l.length - (intOf i).toNat)
  case atStart => exact ⟨0, .slice none 0 0, [], Nat.zero_le _, rfl, Lib.hid (fun j p h => absurd h (by omega)), ⟨rfl, .inl ⟨rfl, rfl⟩⟩, Lib.hid (fun j p h => absurd h (by omega)), ⟨by simp [go_sem], by simp [go_sem], by simp [go_sem], by simp [go_sem], by simp [go_sem], by simp⟩, by (repeat (first | with_reducible exact Below.refl _ _ | with_reducible assumption | with_reducible refine balloc ?_ _ | with_reducible refine bdrew ?_ | with_reducible refine below_drewN ?_ _ | with_reducible refine bset ?_ ?_ _ | with_reducible exact Nat.le_refl _ | with_reducible refine bsize ?_ | (dsimp only; refine Nat.le_trans ?_ (Nat.le_add_right _ _)) | with_reducible refine Nat.le_trans ?_ (Nat.le_add_right _ _) | (with_reducible refine bstep ?_ (by assumption))))⟩
  case round =>
    obtain ⟨k, v, vs, hk, rfl, hall, hown, htr, hst, hbel⟩ := hrel
    have hL := hLH.out
    obtain ⟨av, cv, rfl⟩ := owns_shape hown
    by_cases hlt : k < l.length
    · obtain ⟨p, hp⟩ : ∃ p, l[k]? = some p := ⟨_, List.getElem?_eq_getElem hlt⟩
      have hL2 := liesG_below hL hbel
      have hc := hL2.hcell k p hp
      have e0 := hc 0 p.k rfl
      rw [Nat.add_zero] at e0
      have e1 : wr.cell? ⟨(a.add (k * 3)).block, (a.add (k * 3)).off + 1, none⟩ = some (.int .i64 p.a) := by
        have h := hc 1 p.a rfl
        rw [← Deep.add_add] at h
        exact h
      have e2 : wr.cell? ⟨(a.add (k * 3)).block, (a.add (k * 3)).off + 2, none⟩ = some (.int .i64 p.b) := by
        have h := hc 2 p.b rfl
        rw [← Deep.add_add] at h
        exact h
      clear hc
      clear hL hL2
      have hwz := hst.hs
      cases hP : clB m p.k p.a p.b
      · have hno := Lib.hid (pzB_no3 hp hP)
        have HN := Lib.hid (fun W => tr_no m p.k p.a p.b hm hP W)
        clear hP hp hall htr
        obtain ⟨q0, q1, q2, z1, z2, qs⟩ := id hst
        go_upto_region 7 with fail
        refine wp_region_panicTo (fun W => TrSt w.heap.size m (.slice av k cv) W ∧ Below w.heap.size w W) [{ v := .iface 27 (.agg #[.int .i64 p.k, .int .i64 p.a, .int .i64 p.b]), recovered := false }] [{ target := Target.fn (Fn.func 105) #[.pointer (some ⟨w.heap.size + 1, 0, none⟩), .pointer (some ⟨w.heap.size + 1 + 1, 0, none⟩)], args := #[] }] (.pointer (some ⟨w.heap.size + 1, 0, none⟩)) (.pointer (some ⟨w.heap.size + 1 + 1, 0, none⟩)) ?_ ?_
        · rintro act W ⟨hs2, hb2⟩ hD t2 t3
          show Leaves Try.prog Try.f92 act.tmps _ act.defers (.panicking _) W
          rw [hD]
          refine leaves_cons (f := 105) (args := #[.pointer (some ⟨w.heap.size + 1, 0, none⟩), .pointer (some ⟨w.heap.size + 1 + 1, 0, none⟩)]) (by simp) (by simp [go_sem]) ?_
          refine (door_pan w _ _ av k cv false _ _ _ W hs2.c1 hs2.z1 hs2.c2 hs2.z2 (by omega) hb2 (by omega) (by omega)).mono ?_
          rintro e u' w'' ⟨rfl, rfl, d1, d2, hb3⟩
          have hno := hno.out
          simp [Leaves, settle, results, Try.results92, go_sem, t2, t3, d1, d2]
          exact ⟨_, by rw [hno], hb3, fun h => (by rw [hno] at h; cases h), fun _ => rfl⟩
        · refine wp_region_T 7 (fun W => W.cell? ⟨w.heap.size, 0, none⟩ = some (.int .i64 m) ∧ W.cell? ⟨w.heap.size + 1, 0, none⟩ = some (.slice av k cv) ∧ W.cell? ⟨wr.heap.size, 0, none⟩ = some (.int .i64 p.k) ∧ W.cell? ⟨wr.heap.size, 1, none⟩ = some (.int .i64 p.a) ∧ W.cell? ⟨wr.heap.size, 2, none⟩ = some (.int .i64 p.b)) (by kernel_rfl) (by have s := hst.later (show Below wr.heap.size wr (wr.alloc (.cells #[.int .i64 p.k, .int .i64 p.a, .int .i64 p.b] 27)).drew by (repeat (first | with_reducible exact Below.refl _ _ | with_reducible assumption | with_reducible refine balloc ?_ _ | with_reducible refine bdrew ?_ | with_reducible refine below_drewN ?_ _ | with_reducible refine bset ?_ ?_ _ | with_reducible exact Nat.le_refl _ | with_reducible refine bsize ?_ | (dsimp only; refine Nat.le_trans ?_ (Nat.le_add_right _ _)) | with_reducible refine Nat.le_trans ?_ (Nat.le_add_right _ _) | (with_reducible refine bstep ?_ (by assumption))))); exact ⟨s.c0, s.c1, by simp [go_sem], by simp [go_sem], by simp [go_sem]⟩) (fun hHeld => ?_)
          (refine wpAnyT_take (i := 0) (v := ?_) (by rfl) (by kernel_rfl) (by kernel_rfl) (by kernel_rfl) (by kernel_rfl) (by intro c a w h; exact PanicTo.put (by decide) (by decide) h) (Or.inl ⟨by rfl, ?_⟩) (by assumption) ?_; rotate_left; (focus (intro w hSw; (try dsimp only at hSw); go_simp; (try with_reducible rfl))); (try simp only [Act.put, List.setIfInBounds_toArray, List.set_cons_zero, List.set_cons_succ]))
          (refine wpAnyT_take (i := 1) (v := ?_) (by rfl) (by kernel_rfl) (by kernel_rfl) (by kernel_rfl) (by kernel_rfl) (by intro c a w h; exact PanicTo.put (by decide) (by decide) h) (Or.inl ⟨by rfl, ?_⟩) (by assumption) ?_; rotate_left; (focus (intro w hSw; (try dsimp only at hSw); go_simp; (try with_reducible rfl))); (try simp only [Act.put, List.setIfInBounds_toArray, List.set_cons_zero, List.set_cons_succ]))
          (refine wpAnyT_take (i := 2) (v := ?_) (by rfl) (by kernel_rfl) (by kernel_rfl) (by kernel_rfl) (by kernel_rfl) (by intro c a w h; exact PanicTo.put (by decide) (by decide) h) (Or.inl ⟨by rfl, ?_⟩) (by assumption) ?_; rotate_left; (focus (intro w hSw; (try dsimp only at hSw); go_simp; (try with_reducible rfl))); (try simp only [Act.put, List.setIfInBounds_toArray, List.set_cons_zero, List.set_cons_succ]))
          (refine wpAnyT_take (i := 3) (v := ?_) (by rfl) (by kernel_rfl) (by kernel_rfl) (by kernel_rfl) (by kernel_rfl) (by intro c a w h; exact PanicTo.put (by decide) (by decide) h) (Or.inl ⟨by rfl, ?_⟩) (by assumption) ?_; rotate_left; (focus (intro w hSw; (try dsimp only at hSw); go_simp; (try with_reducible rfl))); (try simp only [Act.put, List.setIfInBounds_toArray, List.set_cons_zero, List.set_cons_succ]))
          refine wpAnyT_one (i := 4) (by kernel_rfl) (by rfl) (fun K hK => ?_)
          go_simp
          refine (HN.out _).mono ?_
          rintro e w1 ⟨rfl, hb1⟩
          have f1 : Below wr.heap.size wr w1 := by (repeat (first | with_reducible exact Below.refl _ _ | with_reducible assumption | with_reducible refine balloc ?_ _ | with_reducible refine bdrew ?_ | with_reducible refine below_drewN ?_ _ | with_reducible refine bset ?_ ?_ _ | with_reducible exact Nat.le_refl _ | with_reducible refine bsize ?_ | (dsimp only; refine Nat.le_trans ?_ (Nat.le_add_right _ _)) | with_reducible refine Nat.le_trans ?_ (Nat.le_add_right _ _) | (with_reducible refine bstep ?_ (by assumption))))
          exact ⟨rfl, ⟨hst.later f1, bstep hbel f1⟩, rfl, rfl, rfl⟩
      · have hnext : Hid (∀ (j : Nat) (p : ClueV), j < k + 1 → l[j]? = some p → clP m p = true) := by
          have h := hall.out
          refine Lib.hid (fun j q hj hq => ?_)
          by_cases e : j = k
          · subst e
            rw [hp] at hq
            injection hq with hq
            subst hq
            exact hP
          · exact h j q (by omega) hq
        have HY := Lib.hid (fun W => tr_yes m p.k p.a p.b hm hP W)
        have HP9 := Lib.hid hp
        clear hP hp hall
        obtain ⟨q0, q1, q2, z1, z2, qs⟩ := id hst
        have HS9 := Lib.hid (fun (W : World) (s : TrSt w.heap.size m (.slice av k cv) W) (b : Blk wr.heap.size #[.int .i64 p.k, .int .i64 p.a, .int .i64 p.b] 27 W) => (⟨s.c0, s.c1, b.cell 0, b.cell 1, b.cell 2⟩ : W.cell? ⟨w.heap.size, 0, none⟩ = some (.int .i64 m) ∧ W.cell? ⟨w.heap.size + 1, 0, none⟩ = some (.slice av k cv) ∧ W.cell? ⟨wr.heap.size, 0, none⟩ = some (.int .i64 p.k) ∧ W.cell? ⟨wr.heap.size, 1, none⟩ = some (.int .i64 p.a) ∧ W.cell? ⟨wr.heap.size, 2, none⟩ = some (.int .i64 p.b)))
        have hbk := Blk.new wr #[.int .i64 p.k, .int .i64 p.a, .int .i64 p.b] 27
        go_upto_region 7 with fail
        refine wp_region_noPanic ?_
        refine wp_region_T 7 (fun W => W.cell? ⟨w.heap.size, 0, none⟩ = some (.int .i64 m) ∧ W.cell? ⟨w.heap.size + 1, 0, none⟩ = some (.slice av k cv) ∧ W.cell? ⟨wr.heap.size, 0, none⟩ = some (.int .i64 p.k) ∧ W.cell? ⟨wr.heap.size, 1, none⟩ = some (.int .i64 p.a) ∧ W.cell? ⟨wr.heap.size, 2, none⟩ = some (.int .i64 p.b)) (by kernel_rfl) (HS9.out _ (hst.later (by (repeat (first | with_reducible exact Below.refl _ _ | with_reducible assumption | with_reducible refine balloc ?_ _ | with_reducible refine bdrew ?_ | with_reducible refine below_drewN ?_ _ | with_reducible refine bset ?_ ?_ _ | with_reducible exact Nat.le_refl _ | with_reducible refine bsize ?_ | (dsimp only; refine Nat.le_trans ?_ (Nat.le_add_right _ _)) | with_reducible refine Nat.le_trans ?_ (Nat.le_add_right _ _) | (with_reducible refine bstep ?_ (by assumption)))))) hbk.drew) (fun hHeld => ?_)
        (refine wpAnyT_take (i := 0) (v := ?_) (by rfl) (by kernel_rfl) (by kernel_rfl) (by kernel_rfl) (by kernel_rfl) (fun _ _ _ h => h) (Or.inl ⟨by rfl, ?_⟩) (by assumption) ?_; rotate_left; (focus (intro w hSw; (try dsimp only at hSw); go_simp; (try with_reducible rfl))); (try simp only [Act.put, List.setIfInBounds_toArray, List.set_cons_zero, List.set_cons_succ]))
        (refine wpAnyT_take (i := 1) (v := ?_) (by rfl) (by kernel_rfl) (by kernel_rfl) (by kernel_rfl) (by kernel_rfl) (fun _ _ _ h => h) (Or.inl ⟨by rfl, ?_⟩) (by assumption) ?_; rotate_left; (focus (intro w hSw; (try dsimp only at hSw); go_simp; (try with_reducible rfl))); (try simp only [Act.put, List.setIfInBounds_toArray, List.set_cons_zero, List.set_cons_succ]))
        (refine wpAnyT_take (i := 2) (v := ?_) (by rfl) (by kernel_rfl) (by kernel_rfl) (by kernel_rfl) (by kernel_rfl) (fun _ _ _ h => h) (Or.inl ⟨by rfl, ?_⟩) (by assumption) ?_; rotate_left; (focus (intro w hSw; (try dsimp only at hSw); go_simp; (try with_reducible rfl))); (try simp only [Act.put, List.setIfInBounds_toArray, List.set_cons_zero, List.set_cons_succ]))
        (refine wpAnyT_take (i := 3) (v := ?_) (by rfl) (by kernel_rfl) (by kernel_rfl) (by kernel_rfl) (by kernel_rfl) (fun _ _ _ h => h) (Or.inl ⟨by rfl, ?_⟩) (by assumption) ?_; rotate_left; (focus (intro w hSw; (try dsimp only at hSw); go_simp; (try with_reducible rfl))); (try simp only [Act.put, List.setIfInBounds_toArray, List.set_cons_zero, List.set_cons_succ]))
        (refine wpAnyT_one (i := 4) (by kernel_rfl) (by rfl) (fun K hK => ?_); go_simp; (refine (HY.out _).mono ?_; rintro e w4 ⟨v4, rfl, ht4, hb4⟩; (obtain ⟨f4, cs4, rfl⟩ := ht4.shape); (have hbel4 : Below wr.heap.size wr w4 := by (repeat (first | with_reducible exact Below.refl _ _ | with_reducible assumption | with_reducible refine balloc ?_ _ | with_reducible refine bdrew ?_ | with_reducible refine below_drewN ?_ _ | with_reducible refine bset ?_ ?_ _ | with_reducible exact Nat.le_refl _ | with_reducible refine bsize ?_ | (dsimp only; refine Nat.le_trans ?_ (Nat.le_add_right _ _)) | with_reducible refine Nat.le_trans ?_ (Nat.le_add_right _ _) | (with_reducible refine bstep ?_ (by assumption))))); (have hst4 := hst.later hbel4); (have hbk4 := Blk.later (W := (wr.alloc (.cells #[.int .i64 p.k, .int .i64 p.a, .int .i64 p.b] 27)).drew) hbk hb4)); (try go_wp2_with fail); refine hK.out _ _ (Or.inr (by exact HS9.out _ hst4 hbk4)) (fun hHeld => ?_); replace hHeld := hHeld.resolve_left (by decide); clear hK; clear K; (try simp only [Act.put, List.setIfInBounds_toArray, List.set_cons_zero, List.set_cons_succ]))
        have hb5 : Below w4.heap.size w4 (w4.alloc (.cells #[.func (.func f4) #[] cs4] 64)) := balloc (Below.refl _ _) _
        have hown5 := ownsRow_below (ownsRow_below hown hbel4) hb5
        have hst5 := hst4.later hb5
        have hbk5 := hbk4.later hb5
        have ht5 := ht4.later hb5
        (refine wpAnyT_one (i := 5) (by kernel_rfl) (by rfl) (fun K hK => ?_); go_simp; skip; (try go_wp2_with fail); refine hK.out _ _ (Or.inr (by exact HS9.out _ hst5 hbk5)) (fun hHeld => ?_); replace hHeld := hHeld.resolve_left (by decide); clear hK; clear K; (try simp only [Act.put, List.setIfInBounds_toArray, List.set_cons_zero, List.set_cons_succ]))
        refine wpAnyT_one (i := 6) (by kernel_rfl) (by rfl) (fun K hK => ?_)
        refine step_append_own rfl (.tmp 24) (.tmp 29) 89 rfl (w.heap.size + 1 + 1 + 1) 64 i0 .nilFunc 1 8 Try.underlying89 hi hz0 hz1 hz2 rfl (by decide) (.slice av k cv) k vs ?c6 hown5 ⟨w4.heap.size, 0, none⟩ 1 1 [.func (.func f4) #[] cs4] ?c7 rfl ?c1 ?c2 ?c3 ?c4 ?c5 ?_
        case c6 => simp [Act.eval, Act.put]
        case c7 => simp [Act.eval, Act.put]; done
        case c1 => (intro j u hj; rcases j with _ | j <;> simp at hj; subst hj; simp [go_sem]; done)
        case c2 => simp [Value.oneCell']
        case c3 => unfold maxLen; omega
        case c4 => omega
        case c5 => have := hst5.hs; simp at this; simp; omega
        intro v6 w6 hown6 hgr6
        have hrk : ∀ b, (Value.slice av k cv).ownBlock = some b → w.heap.size + 1 + 1 < b := fun b e => by have := own_block hown5 e; omega
        have hst6 := hst5.grown hgr6 hrk
        have hbk6 := hbk5.grown hgr6 (hbk5.ne_row hown5 (by decide))
        refine hK.out _ _ (Or.inr (HS9.out _ hst6 hbk6)) (fun hHeld => ?_)
        clear hK
        clear K
        (try simp only [Act.put, List.setIfInBounds_toArray, List.set_cons_zero, List.set_cons_succ])
        have c61 := hst6.c1
        have z61 := hst6.z1
        obtain ⟨av6, cv6, rfl⟩ := owns_shape hown6
        refine wpAnyT_one (i := 7) (by kernel_rfl) (by rfl) (fun K hK => ?_)
        go_simp
        refine hK.out _ _ (Or.inl rfl) (fun _ => ?_)
        refine wpAnyT_done (by kernel_rfl) ?_ _
        refine NoPanic.normal ?_
        clear hK
        clear K
        go_wp2
        go_roundw
        case rel =>
          have hb6 : Below w.heap.size w w6 := (bstep (bstep hbel hbel4) hb5).grown hgr6 (by have := hst5.hs; omega) (fun b e => by have := hrk b e; omega)
          refine ⟨k + 1, .slice av6 (k + 1) cv6, vs ++ [.func (.func f4) #[] cs4], by omega, by go_num, hnext, own_set hown6 (by have := own_ne hown6 (b := w.heap.size + 1) (by omega); simpa using this) _, ?_, hst6.put, bset hb6 (by simp) _⟩
          refine Lib.hid (fun j q hj hq => ?_)
          have hvl : vs.length = k := by have := hown5.1; omega
          by_cases e : j = k
          · subst e
            rw [HP9.out] at hq
            injection hq with hq
            subst hq
            exact ⟨_, by rw [List.getElem?_append_right (by omega), hvl]; simp, (ht5.grown hown5 hgr6).put c61 _⟩
          · obtain ⟨u, hu, hut⟩ := htr.out j q (by omega) hq
            exact ⟨u, by rw [List.getElem?_append_left (by omega)]; exact hu, (((hut.later hbel4).later hb5).grown hown5 hgr6).put c61 _⟩
        case measure => simp [intOf]; omega
    · have hkn : k = l.length := by omega
      have hyes : pzB m l = true := pzB_all h1 h2 (fun j p hj hq => hall.out j p (by omega) hq)
      subst hkn
      have HYES := Lib.hid hyes
      clear hyes hL hall
      obtain ⟨q0, q1, q2, z1, z2, qs⟩ := id hst
      go_wp2
      refine leaves_cons (f := 105) (args := #[.pointer (some ⟨w.heap.size + 1, 0, none⟩), .pointer (some ⟨w.heap.size + 1 + 1, 0, none⟩)]) (by simp) (by simp [go_sem]) ?_
      refine (door_idl _ _ _).mono ?_
      rintro e u' w'' ⟨rfl, rfl, hb3⟩
      have hput := hst.put (v' := .slice av l.length cv)
      have o1 := own_set hown (p := ⟨w.heap.size + 1, 0, none⟩) (own_ne hown (b := w.heap.size + 1) (by omega)) (.slice av l.length cv)
      have o2 := own_set o1 (p := ⟨w.heap.size + 1 + 1, 0, none⟩) (own_ne o1 (b := w.heap.size + 1 + 1) (by omega)) (.bool true)
      have s1 : ((wr.setCell ⟨w.heap.size + 1, 0, none⟩ (.slice av l.length cv)).setCell ⟨w.heap.size + 1 + 1, 0, none⟩ (.bool true)).cell? ⟨w.heap.size + 1, 0, none⟩ = some (.slice av l.length cv) := by rw [World.cell?_setCell_far _ _ _ _ (by simp)]; exact hput.c1
      have s2 : ((wr.setCell ⟨w.heap.size + 1, 0, none⟩ (.slice av l.length cv)).setCell ⟨w.heap.size + 1 + 1, 0, none⟩ (.bool true)).cell? ⟨w.heap.size + 1 + 1, 0, none⟩ = some (.bool true) := World.cell?_setCell_same' _ _ _ (by rw [hput.c2]; rfl)
      have d1 := keepa hb3 (by simp; omega) s1
      have d2 := keepa hb3 (by simp; omega) s2
      have hB : Below w.heap.size w w'' := by (repeat (first | with_reducible exact Below.refl _ _ | with_reducible assumption | with_reducible refine balloc ?_ _ | with_reducible refine bdrew ?_ | with_reducible refine below_drewN ?_ _ | with_reducible refine bset ?_ ?_ _ | with_reducible exact Nat.le_refl _ | with_reducible refine bsize ?_ | (dsimp only; refine Nat.le_trans ?_ (Nat.le_add_right _ _)) | with_reducible refine Nat.le_trans ?_ (Nat.le_add_right _ _) | (with_reducible refine bstep ?_ (by assumption))))
      have hown9 := own_mono (ownsRow_below o2 hb3) (by omega : w.heap.size ≤ w.heap.size + 1 + 1 + 1)
      have htr9 : ∀ (i : Nat) (p : ClueV), l[i]? = some p → ∃ u, vs[i]? = some u ∧ TrialAt m p u w'' := by
        intro i p hq
        obtain ⟨u, hu, hut⟩ := htr.out i p ((List.getElem?_eq_some_iff.1 hq).1) hq
        exact ⟨u, hu, ((hut.put q1 _).putB hput.c2 _).later hb3⟩
      have HF := Lib.hid (And.intro hown9 htr9)
      clear hown9 htr9 o1 o2 s1 s2 hb3 hown htr
      simp [Leaves, settle, results, Try.results92, go_sem, d1, d2]
      have hyes := HYES.out
      refine ⟨_, by rw [hyes], hB, fun _ => ⟨vs, HF.out.1, HF.out.2⟩, fun h => by rw [hyes] at h; cases h⟩
/-- The trials of a puzzle, whatever it is. -/
theorem trials_impl (m : Int) (bm : (-9223372036854775808 ≤ m ∧ m ≤ 9223372036854775807)) (v : Value) (l : List ClueV) (w : World) (h : RowG 3 fClue w v l) :
    Calls Try.prog 92 #[.agg #[.int .i64 m, v]] w (EndTr m l w) := by
  have h' := h
  obtain ⟨a0, c0, rfl, hl1, hl2⟩ := row_shape h'
  cases h1 : miB m
  · exact trials_no m bm a0 l.length c0 l rfl w hl1 hl2 (Or.inl h1)
  · by_cases h2 : l.length ≤ 8
    · rcases h with ⟨hv, rfl⟩ | ⟨a, cap, hv, hL⟩
      · injection hv with e1 e2 e3
        subst e1 e3
        exact trials_nil m bm w h1
      · injection hv with e1 e2 e3
        subst e1 e3
        exact trials_some m bm a c0 l w h1 h2 hL
    · exact trials_no m bm a0 l.length c0 l rfl w hl1 hl2 (Or.inr ⟨h1, h2⟩)
end Go.Proofs.Ytiafmojmanhdoaa
