/- Is it a state? What it means; the program's answer. -/
import Derived.Test.YtkpeiibncbcdhaaState
import Derived.Test.YtkpeiibncbcdhaaLawIsStep
import Derived.Test.YtkpeiibncbcdhaaAddUp
import Derived.Test.YtkpeiibncbcdhaaDriven
import Derived.Test.YtkpeiibncbcdhaaCmp
namespace Go.Proofs.Ytkpeiibncbcdhaa
open Go.ChangeShapes Go.WideShapes Go.ChangeAt Go.RowKit Go.Joins
set_option maxRecDepth 100000
set_option linter.unusedVariables false
set_option linter.unusedSimpArgs false

/-- Is p a depot farther than x / y? -/
def depB (x y : Int) (p : DepotV) : Bool := amB p.a p.b && (decide (x * p.b < p.a * y) && smB p.n p.d)
def depsB : List DepotV → Int → Int → Bool
  | [], _, _ => true
  | p :: l, x, y => depB x y p && depsB l p.a p.b
theorem depsB_cons (p : DepotV) (l : List DepotV) (x y : Int) : depsB (p :: l) x y = (depB x y p && depsB l p.a p.b) := rfl
/-- Is it a state? -/
def stateB (a b c d e f : Int) (l : List DepotV) : Bool := amB a b && (amB c d && (decide (c ≤ d) && (amB e f && (decide (l.length ≤ 20) && depsB l 0 1))))

theorem fits_impl (n d : Int) (w : World) :
    Calls Try.prog 62 #[.agg #[.int .i64 n, .int .i64 d]] w fun e w' => e = .returned (.bool (decide (n ≤ d))) ∧ Below w.heap.size w w' := by
  go_enter Try.func62, Try.ntmps62
  go_wp2
  go_ret
  refine ⟨by simp, ?_⟩
  (repeat (first | with_reducible exact Below.refl _ _ | with_reducible assumption | with_reducible refine balloc ?_ _ | with_reducible refine bdrew ?_ | with_reducible refine bset ?_ ?_ _ | with_reducible exact Nat.le_refl _ | with_reducible refine bsize ?_ | (dsimp only; refine Nat.le_trans ?_ (Nat.le_add_right _ _)) | with_reducible refine Nat.le_trans ?_ (Nat.le_add_right _ _) | (with_reducible refine bstep ?_ (by assumption))))
theorem tank_spec (n d : Int) (w : World) :
    Calls Try.prog 99 #[.agg #[.int .i64 n, .int .i64 d]] w fun e w' => e = .returned (.bool (amB n d && decide (n ≤ d))) ∧ Below w.heap.size w w' := by
  cases h : amB n d
  · go_enter Try.func99, Try.ntmps99
    (go_wp2_with fail; refine (good_spec _ _ _).mono ?_; rintro e w1 ⟨rfl, hb1⟩; rw [h]; (have ha1 : Below w.heap.size w w1 := by (repeat (first | with_reducible exact Below.refl _ _ | with_reducible assumption | with_reducible refine balloc ?_ _ | with_reducible refine bdrew ?_ | with_reducible refine bset ?_ ?_ _ | with_reducible exact Nat.le_refl _ | with_reducible refine bsize ?_ | (dsimp only; refine Nat.le_trans ?_ (Nat.le_add_right _ _)) | with_reducible refine Nat.le_trans ?_ (Nat.le_add_right _ _) | (with_reducible refine bstep ?_ (by assumption))))); obtain ⟨kc1, kf1, kz1, ky1, kx1, kv1, ku1⟩ := bcell hb1)
    have q1_h_0 : w1.cell? ⟨w.heap.size, 0, none⟩ = some (.int .i64 n) := by rw [kc1 _ _ (by first | assumption | (simp; done) | (simp; omega) | omega)]; simp [go_sem]
    have r1_h_0 : w1.frozen? ⟨w.heap.size, 0, none⟩ = false := by rw [kf1 _ _ (by first | assumption | (simp; done) | (simp; omega) | omega)]; simp [go_sem]
    have q1_h_1 : w1.cell? ⟨w.heap.size, 1, none⟩ = some (.int .i64 d) := by rw [kc1 _ _ (by first | assumption | (simp; done) | (simp; omega) | omega)]; simp [go_sem]
    have r1_h_1 : w1.frozen? ⟨w.heap.size, 1, none⟩ = false := by rw [kf1 _ _ (by first | assumption | (simp; done) | (simp; omega) | omega)]; simp [go_sem]
    have z1_h : w.heap.size < w1.heap.size := kz1 _ (by first | assumption | (simp; done) | (simp; omega) | omega)
    clear kc1 kf1 kz1 ky1 kx1 kv1 ku1 hb1
    go_wp2
    go_ret
    refine ⟨rfl, ?_⟩
    (repeat (first | with_reducible exact Below.refl _ _ | with_reducible assumption | with_reducible refine balloc ?_ _ | with_reducible refine bdrew ?_ | with_reducible refine bset ?_ ?_ _ | with_reducible exact Nat.le_refl _ | with_reducible refine bsize ?_ | (dsimp only; refine Nat.le_trans ?_ (Nat.le_add_right _ _)) | with_reducible refine Nat.le_trans ?_ (Nat.le_add_right _ _) | (with_reducible refine bstep ?_ (by assumption))))
  · go_enter Try.func99, Try.ntmps99
    (go_wp2_with fail; refine (good_spec _ _ _).mono ?_; rintro e w1 ⟨rfl, hb1⟩; rw [h]; (have ha1 : Below w.heap.size w w1 := by (repeat (first | with_reducible exact Below.refl _ _ | with_reducible assumption | with_reducible refine balloc ?_ _ | with_reducible refine bdrew ?_ | with_reducible refine bset ?_ ?_ _ | with_reducible exact Nat.le_refl _ | with_reducible refine bsize ?_ | (dsimp only; refine Nat.le_trans ?_ (Nat.le_add_right _ _)) | with_reducible refine Nat.le_trans ?_ (Nat.le_add_right _ _) | (with_reducible refine bstep ?_ (by assumption))))); obtain ⟨kc1, kf1, kz1, ky1, kx1, kv1, ku1⟩ := bcell hb1)
    have q1_h_0 : w1.cell? ⟨w.heap.size, 0, none⟩ = some (.int .i64 n) := by rw [kc1 _ _ (by first | assumption | (simp; done) | (simp; omega) | omega)]; simp [go_sem]
    have r1_h_0 : w1.frozen? ⟨w.heap.size, 0, none⟩ = false := by rw [kf1 _ _ (by first | assumption | (simp; done) | (simp; omega) | omega)]; simp [go_sem]
    have q1_h_1 : w1.cell? ⟨w.heap.size, 1, none⟩ = some (.int .i64 d) := by rw [kc1 _ _ (by first | assumption | (simp; done) | (simp; omega) | omega)]; simp [go_sem]
    have r1_h_1 : w1.frozen? ⟨w.heap.size, 1, none⟩ = false := by rw [kf1 _ _ (by first | assumption | (simp; done) | (simp; omega) | omega)]; simp [go_sem]
    have z1_h : w.heap.size < w1.heap.size := kz1 _ (by first | assumption | (simp; done) | (simp; omega) | omega)
    clear kc1 kf1 kz1 ky1 kx1 kv1 ku1 hb1
    go_wp2
    go_ret
    refine ⟨by simp, ?_⟩
    (repeat (first | with_reducible exact Below.refl _ _ | with_reducible assumption | with_reducible refine balloc ?_ _ | with_reducible refine bdrew ?_ | with_reducible refine bset ?_ ?_ _ | with_reducible exact Nat.le_refl _ | with_reducible refine bsize ?_ | (dsimp only; refine Nat.le_trans ?_ (Nat.le_add_right _ _)) | with_reducible refine Nat.le_trans ?_ (Nat.le_add_right _ _) | (with_reducible refine bstep ?_ (by assumption))))
/-- Comparing two amounts. -/
theorem cmp_impl (n d p q : Int) (h1 : amB n d = true) (h2 : amB p q = true) (w : World) :
    Calls Try.prog 64 #[.agg #[.int .i64 n, .int .i64 d], .agg #[.int .i64 p, .int .i64 q]] w fun e w' => e = .returned (.tuple #[.int .i64 (sgI (n * q - p * d)), .bool true]) ∧ Below w.heap.size w w' := by
  have ha := am_of n d h1
  have hb := am_of p q h2
  obtain ⟨h3, h4, h5, h6⟩ := ha
  obtain ⟨h7, h8, h9, h10⟩ := hb
  have h := compare_impl n d p q (by omega) (by omega) (by omega) (by omega) w
  have e : okk n d p q = true := by simp [okk, h1, h2]
  have e2 : cmI n d p q = sgI (n * q - p * d) := by simp [cmI, e]
  rw [e, e2] at h
  exact h
theorem cmp_impl_no (n d p q : Int) (h1 : amB n d = true) (bp : B64 p) (bq : B64 q) (h2 : amB p q = false) (w : World) :
    Calls Try.prog 64 #[.agg #[.int .i64 n, .int .i64 d], .agg #[.int .i64 p, .int .i64 q]] w fun e w' => e = .returned (.tuple #[.int .i64 0, .bool false]) ∧ Below w.heap.size w w' := by
  have ha := am_of n d h1
  obtain ⟨h3, h4, h5, h6⟩ := ha
  have h := compare_impl n d p q (by omega) (by omega) bp bq w
  have e : okk n d p q = false := by simp [okk, h2]
  have e2 : cmI n d p q = 0 := by simp [cmI, e]
  rw [e, e2] at h
  exact h

set_option maxHeartbeats 800000 in
theorem isState_impl_no1 (a b c d e f : Int) (ad : Addr) (cap : Nat) (l : List DepotV) (w : World) (hB : StBd a b c d e f) (hL : LiesG 4 fDepot w ad cap l) (h1 : (amB a b) = false) :
    Calls Try.prog 22 #[.agg #[.int .i64 a, .int .i64 b, .int .i64 c, .int .i64 d, .int .i64 e, .int .i64 f, .slice (some ad) l.length cap]] w fun e w' => e = .returned (.bool false) ∧ Below w.heap.size w w' := by
  obtain ⟨⟨b1, b2⟩, ⟨b3, b4⟩, ⟨b5, b6⟩, ⟨b7, b8⟩, ⟨b9, b10⟩, b11, b12⟩ := hB
  have hlc := hL.hlc
  have hcap := hL.hcap
  go_enter Try.func22, Try.ntmps22
  (go_wp2_with fail; refine (isam_impl _ _ (by omega) (by omega) _).mono ?_; rintro e w1 ⟨rfl, hb1⟩; rw [h1]; (have ha1 : Below w.heap.size w w1 := by (repeat (first | with_reducible exact Below.refl _ _ | with_reducible assumption | with_reducible refine balloc ?_ _ | with_reducible refine bdrew ?_ | with_reducible refine bset ?_ ?_ _ | with_reducible exact Nat.le_refl _ | with_reducible refine bsize ?_ | (dsimp only; refine Nat.le_trans ?_ (Nat.le_add_right _ _)) | with_reducible refine Nat.le_trans ?_ (Nat.le_add_right _ _) | (with_reducible refine bstep ?_ (by assumption))))); obtain ⟨kc1, kf1, kz1, ky1, kx1, kv1, ku1⟩ := bcell hb1)
  have q1_h_0 : w1.cell? ⟨w.heap.size, 0, none⟩ = some (.int .i64 a) := by rw [kc1 _ _ (by first | assumption | (simp; done) | (simp; omega) | omega)]; simp [go_sem]
  have r1_h_0 : w1.frozen? ⟨w.heap.size, 0, none⟩ = false := by rw [kf1 _ _ (by first | assumption | (simp; done) | (simp; omega) | omega)]; simp [go_sem]
  have q1_h_1 : w1.cell? ⟨w.heap.size, 1, none⟩ = some (.int .i64 b) := by rw [kc1 _ _ (by first | assumption | (simp; done) | (simp; omega) | omega)]; simp [go_sem]
  have r1_h_1 : w1.frozen? ⟨w.heap.size, 1, none⟩ = false := by rw [kf1 _ _ (by first | assumption | (simp; done) | (simp; omega) | omega)]; simp [go_sem]
  have q1_h_2 : w1.cell? ⟨w.heap.size, 2, none⟩ = some (.int .i64 c) := by rw [kc1 _ _ (by first | assumption | (simp; done) | (simp; omega) | omega)]; simp [go_sem]
  have r1_h_2 : w1.frozen? ⟨w.heap.size, 2, none⟩ = false := by rw [kf1 _ _ (by first | assumption | (simp; done) | (simp; omega) | omega)]; simp [go_sem]
  have q1_h_3 : w1.cell? ⟨w.heap.size, 3, none⟩ = some (.int .i64 d) := by rw [kc1 _ _ (by first | assumption | (simp; done) | (simp; omega) | omega)]; simp [go_sem]
  have r1_h_3 : w1.frozen? ⟨w.heap.size, 3, none⟩ = false := by rw [kf1 _ _ (by first | assumption | (simp; done) | (simp; omega) | omega)]; simp [go_sem]
  have q1_h_4 : w1.cell? ⟨w.heap.size, 4, none⟩ = some (.int .i64 e) := by rw [kc1 _ _ (by first | assumption | (simp; done) | (simp; omega) | omega)]; simp [go_sem]
  have r1_h_4 : w1.frozen? ⟨w.heap.size, 4, none⟩ = false := by rw [kf1 _ _ (by first | assumption | (simp; done) | (simp; omega) | omega)]; simp [go_sem]
  have q1_h_5 : w1.cell? ⟨w.heap.size, 5, none⟩ = some (.int .i64 f) := by rw [kc1 _ _ (by first | assumption | (simp; done) | (simp; omega) | omega)]; simp [go_sem]
  have r1_h_5 : w1.frozen? ⟨w.heap.size, 5, none⟩ = false := by rw [kf1 _ _ (by first | assumption | (simp; done) | (simp; omega) | omega)]; simp [go_sem]
  have q1_h_6 : w1.cell? ⟨w.heap.size, 6, none⟩ = some (.slice (some ad) l.length cap) := by rw [kc1 _ _ (by first | assumption | (simp; done) | (simp; omega) | omega)]; simp [go_sem]
  have r1_h_6 : w1.frozen? ⟨w.heap.size, 6, none⟩ = false := by rw [kf1 _ _ (by first | assumption | (simp; done) | (simp; omega) | omega)]; simp [go_sem]
  have z1_h : w.heap.size < w1.heap.size := kz1 _ (by first | assumption | (simp; done) | (simp; omega) | omega)
  clear kc1 kf1 kz1 ky1 kx1 kv1 ku1 hb1
  go_wp2
  go_ret
  refine ⟨rfl, ?_⟩
  (repeat (first | with_reducible exact Below.refl _ _ | with_reducible assumption | with_reducible refine balloc ?_ _ | with_reducible refine bdrew ?_ | with_reducible refine bset ?_ ?_ _ | with_reducible exact Nat.le_refl _ | with_reducible refine bsize ?_ | (dsimp only; refine Nat.le_trans ?_ (Nat.le_add_right _ _)) | with_reducible refine Nat.le_trans ?_ (Nat.le_add_right _ _) | (with_reducible refine bstep ?_ (by assumption))))

set_option maxHeartbeats 800000 in
theorem isState_impl_no2 (a b c d e f : Int) (ad : Addr) (cap : Nat) (l : List DepotV) (w : World) (hB : StBd a b c d e f) (hL : LiesG 4 fDepot w ad cap l) (h1 : (amB a b) = true) (h2 : (amB c d) = false) :
    Calls Try.prog 22 #[.agg #[.int .i64 a, .int .i64 b, .int .i64 c, .int .i64 d, .int .i64 e, .int .i64 f, .slice (some ad) l.length cap]] w fun e w' => e = .returned (.bool false) ∧ Below w.heap.size w w' := by
  obtain ⟨⟨b1, b2⟩, ⟨b3, b4⟩, ⟨b5, b6⟩, ⟨b7, b8⟩, ⟨b9, b10⟩, b11, b12⟩ := hB
  have hlc := hL.hlc
  have hcap := hL.hcap
  go_enter Try.func22, Try.ntmps22
  (go_wp2_with fail; refine (isam_impl _ _ (by omega) (by omega) _).mono ?_; rintro e w1 ⟨rfl, hb1⟩; rw [h1]; (have ha1 : Below w.heap.size w w1 := by (repeat (first | with_reducible exact Below.refl _ _ | with_reducible assumption | with_reducible refine balloc ?_ _ | with_reducible refine bdrew ?_ | with_reducible refine bset ?_ ?_ _ | with_reducible exact Nat.le_refl _ | with_reducible refine bsize ?_ | (dsimp only; refine Nat.le_trans ?_ (Nat.le_add_right _ _)) | with_reducible refine Nat.le_trans ?_ (Nat.le_add_right _ _) | (with_reducible refine bstep ?_ (by assumption))))); obtain ⟨kc1, kf1, kz1, ky1, kx1, kv1, ku1⟩ := bcell hb1)
  have q1_h_0 : w1.cell? ⟨w.heap.size, 0, none⟩ = some (.int .i64 a) := by rw [kc1 _ _ (by first | assumption | (simp; done) | (simp; omega) | omega)]; simp [go_sem]
  have r1_h_0 : w1.frozen? ⟨w.heap.size, 0, none⟩ = false := by rw [kf1 _ _ (by first | assumption | (simp; done) | (simp; omega) | omega)]; simp [go_sem]
  have q1_h_1 : w1.cell? ⟨w.heap.size, 1, none⟩ = some (.int .i64 b) := by rw [kc1 _ _ (by first | assumption | (simp; done) | (simp; omega) | omega)]; simp [go_sem]
  have r1_h_1 : w1.frozen? ⟨w.heap.size, 1, none⟩ = false := by rw [kf1 _ _ (by first | assumption | (simp; done) | (simp; omega) | omega)]; simp [go_sem]
  have q1_h_2 : w1.cell? ⟨w.heap.size, 2, none⟩ = some (.int .i64 c) := by rw [kc1 _ _ (by first | assumption | (simp; done) | (simp; omega) | omega)]; simp [go_sem]
  have r1_h_2 : w1.frozen? ⟨w.heap.size, 2, none⟩ = false := by rw [kf1 _ _ (by first | assumption | (simp; done) | (simp; omega) | omega)]; simp [go_sem]
  have q1_h_3 : w1.cell? ⟨w.heap.size, 3, none⟩ = some (.int .i64 d) := by rw [kc1 _ _ (by first | assumption | (simp; done) | (simp; omega) | omega)]; simp [go_sem]
  have r1_h_3 : w1.frozen? ⟨w.heap.size, 3, none⟩ = false := by rw [kf1 _ _ (by first | assumption | (simp; done) | (simp; omega) | omega)]; simp [go_sem]
  have q1_h_4 : w1.cell? ⟨w.heap.size, 4, none⟩ = some (.int .i64 e) := by rw [kc1 _ _ (by first | assumption | (simp; done) | (simp; omega) | omega)]; simp [go_sem]
  have r1_h_4 : w1.frozen? ⟨w.heap.size, 4, none⟩ = false := by rw [kf1 _ _ (by first | assumption | (simp; done) | (simp; omega) | omega)]; simp [go_sem]
  have q1_h_5 : w1.cell? ⟨w.heap.size, 5, none⟩ = some (.int .i64 f) := by rw [kc1 _ _ (by first | assumption | (simp; done) | (simp; omega) | omega)]; simp [go_sem]
  have r1_h_5 : w1.frozen? ⟨w.heap.size, 5, none⟩ = false := by rw [kf1 _ _ (by first | assumption | (simp; done) | (simp; omega) | omega)]; simp [go_sem]
  have q1_h_6 : w1.cell? ⟨w.heap.size, 6, none⟩ = some (.slice (some ad) l.length cap) := by rw [kc1 _ _ (by first | assumption | (simp; done) | (simp; omega) | omega)]; simp [go_sem]
  have r1_h_6 : w1.frozen? ⟨w.heap.size, 6, none⟩ = false := by rw [kf1 _ _ (by first | assumption | (simp; done) | (simp; omega) | omega)]; simp [go_sem]
  have z1_h : w.heap.size < w1.heap.size := kz1 _ (by first | assumption | (simp; done) | (simp; omega) | omega)
  clear kc1 kf1 kz1 ky1 kx1 kv1 ku1 hb1
  (go_wp2_with fail; refine (isam_impl _ _ (by omega) (by omega) _).mono ?_; rintro e w2 ⟨rfl, hb2⟩; rw [h2]; (have ha2 : Below w.heap.size w w2 := by (repeat (first | with_reducible exact Below.refl _ _ | with_reducible assumption | with_reducible refine balloc ?_ _ | with_reducible refine bdrew ?_ | with_reducible refine bset ?_ ?_ _ | with_reducible exact Nat.le_refl _ | with_reducible refine bsize ?_ | (dsimp only; refine Nat.le_trans ?_ (Nat.le_add_right _ _)) | with_reducible refine Nat.le_trans ?_ (Nat.le_add_right _ _) | (with_reducible refine bstep ?_ (by assumption))))); obtain ⟨kc2, kf2, kz2, ky2, kx2, kv2, ku2⟩ := bcell hb2)
  have q2_h_0 : w2.cell? ⟨w.heap.size, 0, none⟩ = some (.int .i64 a) := by rw [kc2 _ _ (by first | assumption | (simp; done) | (simp; omega) | omega)]; simp [go_sem, q1_h_0, r1_h_0, q1_h_1, r1_h_1, q1_h_2, r1_h_2, q1_h_3, r1_h_3, q1_h_4, r1_h_4, q1_h_5, r1_h_5, q1_h_6, r1_h_6, z1_h]
  have r2_h_0 : w2.frozen? ⟨w.heap.size, 0, none⟩ = false := by rw [kf2 _ _ (by first | assumption | (simp; done) | (simp; omega) | omega)]; simp [go_sem, q1_h_0, r1_h_0, q1_h_1, r1_h_1, q1_h_2, r1_h_2, q1_h_3, r1_h_3, q1_h_4, r1_h_4, q1_h_5, r1_h_5, q1_h_6, r1_h_6, z1_h]
  have q2_h_1 : w2.cell? ⟨w.heap.size, 1, none⟩ = some (.int .i64 b) := by rw [kc2 _ _ (by first | assumption | (simp; done) | (simp; omega) | omega)]; simp [go_sem, q1_h_0, r1_h_0, q1_h_1, r1_h_1, q1_h_2, r1_h_2, q1_h_3, r1_h_3, q1_h_4, r1_h_4, q1_h_5, r1_h_5, q1_h_6, r1_h_6, z1_h]
  have r2_h_1 : w2.frozen? ⟨w.heap.size, 1, none⟩ = false := by rw [kf2 _ _ (by first | assumption | (simp; done) | (simp; omega) | omega)]; simp [go_sem, q1_h_0, r1_h_0, q1_h_1, r1_h_1, q1_h_2, r1_h_2, q1_h_3, r1_h_3, q1_h_4, r1_h_4, q1_h_5, r1_h_5, q1_h_6, r1_h_6, z1_h]
  have q2_h_2 : w2.cell? ⟨w.heap.size, 2, none⟩ = some (.int .i64 c) := by rw [kc2 _ _ (by first | assumption | (simp; done) | (simp; omega) | omega)]; simp [go_sem, q1_h_0, r1_h_0, q1_h_1, r1_h_1, q1_h_2, r1_h_2, q1_h_3, r1_h_3, q1_h_4, r1_h_4, q1_h_5, r1_h_5, q1_h_6, r1_h_6, z1_h]
  have r2_h_2 : w2.frozen? ⟨w.heap.size, 2, none⟩ = false := by rw [kf2 _ _ (by first | assumption | (simp; done) | (simp; omega) | omega)]; simp [go_sem, q1_h_0, r1_h_0, q1_h_1, r1_h_1, q1_h_2, r1_h_2, q1_h_3, r1_h_3, q1_h_4, r1_h_4, q1_h_5, r1_h_5, q1_h_6, r1_h_6, z1_h]
  have q2_h_3 : w2.cell? ⟨w.heap.size, 3, none⟩ = some (.int .i64 d) := by rw [kc2 _ _ (by first | assumption | (simp; done) | (simp; omega) | omega)]; simp [go_sem, q1_h_0, r1_h_0, q1_h_1, r1_h_1, q1_h_2, r1_h_2, q1_h_3, r1_h_3, q1_h_4, r1_h_4, q1_h_5, r1_h_5, q1_h_6, r1_h_6, z1_h]
  have r2_h_3 : w2.frozen? ⟨w.heap.size, 3, none⟩ = false := by rw [kf2 _ _ (by first | assumption | (simp; done) | (simp; omega) | omega)]; simp [go_sem, q1_h_0, r1_h_0, q1_h_1, r1_h_1, q1_h_2, r1_h_2, q1_h_3, r1_h_3, q1_h_4, r1_h_4, q1_h_5, r1_h_5, q1_h_6, r1_h_6, z1_h]
  have q2_h_4 : w2.cell? ⟨w.heap.size, 4, none⟩ = some (.int .i64 e) := by rw [kc2 _ _ (by first | assumption | (simp; done) | (simp; omega) | omega)]; simp [go_sem, q1_h_0, r1_h_0, q1_h_1, r1_h_1, q1_h_2, r1_h_2, q1_h_3, r1_h_3, q1_h_4, r1_h_4, q1_h_5, r1_h_5, q1_h_6, r1_h_6, z1_h]
  have r2_h_4 : w2.frozen? ⟨w.heap.size, 4, none⟩ = false := by rw [kf2 _ _ (by first | assumption | (simp; done) | (simp; omega) | omega)]; simp [go_sem, q1_h_0, r1_h_0, q1_h_1, r1_h_1, q1_h_2, r1_h_2, q1_h_3, r1_h_3, q1_h_4, r1_h_4, q1_h_5, r1_h_5, q1_h_6, r1_h_6, z1_h]
  have q2_h_5 : w2.cell? ⟨w.heap.size, 5, none⟩ = some (.int .i64 f) := by rw [kc2 _ _ (by first | assumption | (simp; done) | (simp; omega) | omega)]; simp [go_sem, q1_h_0, r1_h_0, q1_h_1, r1_h_1, q1_h_2, r1_h_2, q1_h_3, r1_h_3, q1_h_4, r1_h_4, q1_h_5, r1_h_5, q1_h_6, r1_h_6, z1_h]
  have r2_h_5 : w2.frozen? ⟨w.heap.size, 5, none⟩ = false := by rw [kf2 _ _ (by first | assumption | (simp; done) | (simp; omega) | omega)]; simp [go_sem, q1_h_0, r1_h_0, q1_h_1, r1_h_1, q1_h_2, r1_h_2, q1_h_3, r1_h_3, q1_h_4, r1_h_4, q1_h_5, r1_h_5, q1_h_6, r1_h_6, z1_h]
  have q2_h_6 : w2.cell? ⟨w.heap.size, 6, none⟩ = some (.slice (some ad) l.length cap) := by rw [kc2 _ _ (by first | assumption | (simp; done) | (simp; omega) | omega)]; simp [go_sem, q1_h_0, r1_h_0, q1_h_1, r1_h_1, q1_h_2, r1_h_2, q1_h_3, r1_h_3, q1_h_4, r1_h_4, q1_h_5, r1_h_5, q1_h_6, r1_h_6, z1_h]
  have r2_h_6 : w2.frozen? ⟨w.heap.size, 6, none⟩ = false := by rw [kf2 _ _ (by first | assumption | (simp; done) | (simp; omega) | omega)]; simp [go_sem, q1_h_0, r1_h_0, q1_h_1, r1_h_1, q1_h_2, r1_h_2, q1_h_3, r1_h_3, q1_h_4, r1_h_4, q1_h_5, r1_h_5, q1_h_6, r1_h_6, z1_h]
  have z2_h : w.heap.size < w2.heap.size := kz2 _ (by first | assumption | (simp; done) | (simp; omega) | omega)
  clear kc2 kf2 kz2 ky2 kx2 kv2 ku2 hb2 q1_h_0 r1_h_0 q1_h_1 r1_h_1 q1_h_2 r1_h_2 q1_h_3 r1_h_3 q1_h_4 r1_h_4 q1_h_5 r1_h_5 q1_h_6 r1_h_6 z1_h
  go_wp2
  go_ret
  refine ⟨rfl, ?_⟩
  (repeat (first | with_reducible exact Below.refl _ _ | with_reducible assumption | with_reducible refine balloc ?_ _ | with_reducible refine bdrew ?_ | with_reducible refine bset ?_ ?_ _ | with_reducible exact Nat.le_refl _ | with_reducible refine bsize ?_ | (dsimp only; refine Nat.le_trans ?_ (Nat.le_add_right _ _)) | with_reducible refine Nat.le_trans ?_ (Nat.le_add_right _ _) | (with_reducible refine bstep ?_ (by assumption))))

set_option maxHeartbeats 800000 in
theorem isState_impl_no3 (a b c d e f : Int) (ad : Addr) (cap : Nat) (l : List DepotV) (w : World) (hB : StBd a b c d e f) (hL : LiesG 4 fDepot w ad cap l) (h1 : (amB a b) = true) (h2 : (amB c d) = true) (h3 : (decide (c ≤ d)) = false) :
    Calls Try.prog 22 #[.agg #[.int .i64 a, .int .i64 b, .int .i64 c, .int .i64 d, .int .i64 e, .int .i64 f, .slice (some ad) l.length cap]] w fun e w' => e = .returned (.bool false) ∧ Below w.heap.size w w' := by
  obtain ⟨⟨b1, b2⟩, ⟨b3, b4⟩, ⟨b5, b6⟩, ⟨b7, b8⟩, ⟨b9, b10⟩, b11, b12⟩ := hB
  have hlc := hL.hlc
  have hcap := hL.hcap
  go_enter Try.func22, Try.ntmps22
  (go_wp2_with fail; refine (isam_impl _ _ (by omega) (by omega) _).mono ?_; rintro e w1 ⟨rfl, hb1⟩; rw [h1]; (have ha1 : Below w.heap.size w w1 := by (repeat (first | with_reducible exact Below.refl _ _ | with_reducible assumption | with_reducible refine balloc ?_ _ | with_reducible refine bdrew ?_ | with_reducible refine bset ?_ ?_ _ | with_reducible exact Nat.le_refl _ | with_reducible refine bsize ?_ | (dsimp only; refine Nat.le_trans ?_ (Nat.le_add_right _ _)) | with_reducible refine Nat.le_trans ?_ (Nat.le_add_right _ _) | (with_reducible refine bstep ?_ (by assumption))))); obtain ⟨kc1, kf1, kz1, ky1, kx1, kv1, ku1⟩ := bcell hb1)
  have q1_h_0 : w1.cell? ⟨w.heap.size, 0, none⟩ = some (.int .i64 a) := by rw [kc1 _ _ (by first | assumption | (simp; done) | (simp; omega) | omega)]; simp [go_sem]
  have r1_h_0 : w1.frozen? ⟨w.heap.size, 0, none⟩ = false := by rw [kf1 _ _ (by first | assumption | (simp; done) | (simp; omega) | omega)]; simp [go_sem]
  have q1_h_1 : w1.cell? ⟨w.heap.size, 1, none⟩ = some (.int .i64 b) := by rw [kc1 _ _ (by first | assumption | (simp; done) | (simp; omega) | omega)]; simp [go_sem]
  have r1_h_1 : w1.frozen? ⟨w.heap.size, 1, none⟩ = false := by rw [kf1 _ _ (by first | assumption | (simp; done) | (simp; omega) | omega)]; simp [go_sem]
  have q1_h_2 : w1.cell? ⟨w.heap.size, 2, none⟩ = some (.int .i64 c) := by rw [kc1 _ _ (by first | assumption | (simp; done) | (simp; omega) | omega)]; simp [go_sem]
  have r1_h_2 : w1.frozen? ⟨w.heap.size, 2, none⟩ = false := by rw [kf1 _ _ (by first | assumption | (simp; done) | (simp; omega) | omega)]; simp [go_sem]
  have q1_h_3 : w1.cell? ⟨w.heap.size, 3, none⟩ = some (.int .i64 d) := by rw [kc1 _ _ (by first | assumption | (simp; done) | (simp; omega) | omega)]; simp [go_sem]
  have r1_h_3 : w1.frozen? ⟨w.heap.size, 3, none⟩ = false := by rw [kf1 _ _ (by first | assumption | (simp; done) | (simp; omega) | omega)]; simp [go_sem]
  have q1_h_4 : w1.cell? ⟨w.heap.size, 4, none⟩ = some (.int .i64 e) := by rw [kc1 _ _ (by first | assumption | (simp; done) | (simp; omega) | omega)]; simp [go_sem]
  have r1_h_4 : w1.frozen? ⟨w.heap.size, 4, none⟩ = false := by rw [kf1 _ _ (by first | assumption | (simp; done) | (simp; omega) | omega)]; simp [go_sem]
  have q1_h_5 : w1.cell? ⟨w.heap.size, 5, none⟩ = some (.int .i64 f) := by rw [kc1 _ _ (by first | assumption | (simp; done) | (simp; omega) | omega)]; simp [go_sem]
  have r1_h_5 : w1.frozen? ⟨w.heap.size, 5, none⟩ = false := by rw [kf1 _ _ (by first | assumption | (simp; done) | (simp; omega) | omega)]; simp [go_sem]
  have q1_h_6 : w1.cell? ⟨w.heap.size, 6, none⟩ = some (.slice (some ad) l.length cap) := by rw [kc1 _ _ (by first | assumption | (simp; done) | (simp; omega) | omega)]; simp [go_sem]
  have r1_h_6 : w1.frozen? ⟨w.heap.size, 6, none⟩ = false := by rw [kf1 _ _ (by first | assumption | (simp; done) | (simp; omega) | omega)]; simp [go_sem]
  have z1_h : w.heap.size < w1.heap.size := kz1 _ (by first | assumption | (simp; done) | (simp; omega) | omega)
  clear kc1 kf1 kz1 ky1 kx1 kv1 ku1 hb1
  (go_wp2_with fail; refine (isam_impl _ _ (by omega) (by omega) _).mono ?_; rintro e w2 ⟨rfl, hb2⟩; rw [h2]; (have ha2 : Below w.heap.size w w2 := by (repeat (first | with_reducible exact Below.refl _ _ | with_reducible assumption | with_reducible refine balloc ?_ _ | with_reducible refine bdrew ?_ | with_reducible refine bset ?_ ?_ _ | with_reducible exact Nat.le_refl _ | with_reducible refine bsize ?_ | (dsimp only; refine Nat.le_trans ?_ (Nat.le_add_right _ _)) | with_reducible refine Nat.le_trans ?_ (Nat.le_add_right _ _) | (with_reducible refine bstep ?_ (by assumption))))); obtain ⟨kc2, kf2, kz2, ky2, kx2, kv2, ku2⟩ := bcell hb2)
  have q2_h_0 : w2.cell? ⟨w.heap.size, 0, none⟩ = some (.int .i64 a) := by rw [kc2 _ _ (by first | assumption | (simp; done) | (simp; omega) | omega)]; simp [go_sem, q1_h_0, r1_h_0, q1_h_1, r1_h_1, q1_h_2, r1_h_2, q1_h_3, r1_h_3, q1_h_4, r1_h_4, q1_h_5, r1_h_5, q1_h_6, r1_h_6, z1_h]
  have r2_h_0 : w2.frozen? ⟨w.heap.size, 0, none⟩ = false := by rw [kf2 _ _ (by first | assumption | (simp; done) | (simp; omega) | omega)]; simp [go_sem, q1_h_0, r1_h_0, q1_h_1, r1_h_1, q1_h_2, r1_h_2, q1_h_3, r1_h_3, q1_h_4, r1_h_4, q1_h_5, r1_h_5, q1_h_6, r1_h_6, z1_h]
  have q2_h_1 : w2.cell? ⟨w.heap.size, 1, none⟩ = some (.int .i64 b) := by rw [kc2 _ _ (by first | assumption | (simp; done) | (simp; omega) | omega)]; simp [go_sem, q1_h_0, r1_h_0, q1_h_1, r1_h_1, q1_h_2, r1_h_2, q1_h_3, r1_h_3, q1_h_4, r1_h_4, q1_h_5, r1_h_5, q1_h_6, r1_h_6, z1_h]
  have r2_h_1 : w2.frozen? ⟨w.heap.size, 1, none⟩ = false := by rw [kf2 _ _ (by first | assumption | (simp; done) | (simp; omega) | omega)]; simp [go_sem, q1_h_0, r1_h_0, q1_h_1, r1_h_1, q1_h_2, r1_h_2, q1_h_3, r1_h_3, q1_h_4, r1_h_4, q1_h_5, r1_h_5, q1_h_6, r1_h_6, z1_h]
  have q2_h_2 : w2.cell? ⟨w.heap.size, 2, none⟩ = some (.int .i64 c) := by rw [kc2 _ _ (by first | assumption | (simp; done) | (simp; omega) | omega)]; simp [go_sem, q1_h_0, r1_h_0, q1_h_1, r1_h_1, q1_h_2, r1_h_2, q1_h_3, r1_h_3, q1_h_4, r1_h_4, q1_h_5, r1_h_5, q1_h_6, r1_h_6, z1_h]
  have r2_h_2 : w2.frozen? ⟨w.heap.size, 2, none⟩ = false := by rw [kf2 _ _ (by first | assumption | (simp; done) | (simp; omega) | omega)]; simp [go_sem, q1_h_0, r1_h_0, q1_h_1, r1_h_1, q1_h_2, r1_h_2, q1_h_3, r1_h_3, q1_h_4, r1_h_4, q1_h_5, r1_h_5, q1_h_6, r1_h_6, z1_h]
  have q2_h_3 : w2.cell? ⟨w.heap.size, 3, none⟩ = some (.int .i64 d) := by rw [kc2 _ _ (by first | assumption | (simp; done) | (simp; omega) | omega)]; simp [go_sem, q1_h_0, r1_h_0, q1_h_1, r1_h_1, q1_h_2, r1_h_2, q1_h_3, r1_h_3, q1_h_4, r1_h_4, q1_h_5, r1_h_5, q1_h_6, r1_h_6, z1_h]
  have r2_h_3 : w2.frozen? ⟨w.heap.size, 3, none⟩ = false := by rw [kf2 _ _ (by first | assumption | (simp; done) | (simp; omega) | omega)]; simp [go_sem, q1_h_0, r1_h_0, q1_h_1, r1_h_1, q1_h_2, r1_h_2, q1_h_3, r1_h_3, q1_h_4, r1_h_4, q1_h_5, r1_h_5, q1_h_6, r1_h_6, z1_h]
  have q2_h_4 : w2.cell? ⟨w.heap.size, 4, none⟩ = some (.int .i64 e) := by rw [kc2 _ _ (by first | assumption | (simp; done) | (simp; omega) | omega)]; simp [go_sem, q1_h_0, r1_h_0, q1_h_1, r1_h_1, q1_h_2, r1_h_2, q1_h_3, r1_h_3, q1_h_4, r1_h_4, q1_h_5, r1_h_5, q1_h_6, r1_h_6, z1_h]
  have r2_h_4 : w2.frozen? ⟨w.heap.size, 4, none⟩ = false := by rw [kf2 _ _ (by first | assumption | (simp; done) | (simp; omega) | omega)]; simp [go_sem, q1_h_0, r1_h_0, q1_h_1, r1_h_1, q1_h_2, r1_h_2, q1_h_3, r1_h_3, q1_h_4, r1_h_4, q1_h_5, r1_h_5, q1_h_6, r1_h_6, z1_h]
  have q2_h_5 : w2.cell? ⟨w.heap.size, 5, none⟩ = some (.int .i64 f) := by rw [kc2 _ _ (by first | assumption | (simp; done) | (simp; omega) | omega)]; simp [go_sem, q1_h_0, r1_h_0, q1_h_1, r1_h_1, q1_h_2, r1_h_2, q1_h_3, r1_h_3, q1_h_4, r1_h_4, q1_h_5, r1_h_5, q1_h_6, r1_h_6, z1_h]
  have r2_h_5 : w2.frozen? ⟨w.heap.size, 5, none⟩ = false := by rw [kf2 _ _ (by first | assumption | (simp; done) | (simp; omega) | omega)]; simp [go_sem, q1_h_0, r1_h_0, q1_h_1, r1_h_1, q1_h_2, r1_h_2, q1_h_3, r1_h_3, q1_h_4, r1_h_4, q1_h_5, r1_h_5, q1_h_6, r1_h_6, z1_h]
  have q2_h_6 : w2.cell? ⟨w.heap.size, 6, none⟩ = some (.slice (some ad) l.length cap) := by rw [kc2 _ _ (by first | assumption | (simp; done) | (simp; omega) | omega)]; simp [go_sem, q1_h_0, r1_h_0, q1_h_1, r1_h_1, q1_h_2, r1_h_2, q1_h_3, r1_h_3, q1_h_4, r1_h_4, q1_h_5, r1_h_5, q1_h_6, r1_h_6, z1_h]
  have r2_h_6 : w2.frozen? ⟨w.heap.size, 6, none⟩ = false := by rw [kf2 _ _ (by first | assumption | (simp; done) | (simp; omega) | omega)]; simp [go_sem, q1_h_0, r1_h_0, q1_h_1, r1_h_1, q1_h_2, r1_h_2, q1_h_3, r1_h_3, q1_h_4, r1_h_4, q1_h_5, r1_h_5, q1_h_6, r1_h_6, z1_h]
  have z2_h : w.heap.size < w2.heap.size := kz2 _ (by first | assumption | (simp; done) | (simp; omega) | omega)
  clear kc2 kf2 kz2 ky2 kx2 kv2 ku2 hb2 q1_h_0 r1_h_0 q1_h_1 r1_h_1 q1_h_2 r1_h_2 q1_h_3 r1_h_3 q1_h_4 r1_h_4 q1_h_5 r1_h_5 q1_h_6 r1_h_6 z1_h
  (go_wp2_with fail; refine (fits_impl _ _ _).mono ?_; rintro e w3 ⟨rfl, hb3⟩; rw [h3]; (have ha3 : Below w.heap.size w w3 := by (repeat (first | with_reducible exact Below.refl _ _ | with_reducible assumption | with_reducible refine balloc ?_ _ | with_reducible refine bdrew ?_ | with_reducible refine bset ?_ ?_ _ | with_reducible exact Nat.le_refl _ | with_reducible refine bsize ?_ | (dsimp only; refine Nat.le_trans ?_ (Nat.le_add_right _ _)) | with_reducible refine Nat.le_trans ?_ (Nat.le_add_right _ _) | (with_reducible refine bstep ?_ (by assumption))))); obtain ⟨kc3, kf3, kz3, ky3, kx3, kv3, ku3⟩ := bcell hb3)
  have q3_h_0 : w3.cell? ⟨w.heap.size, 0, none⟩ = some (.int .i64 a) := by rw [kc3 _ _ (by first | assumption | (simp; done) | (simp; omega) | omega)]; simp [go_sem, q2_h_0, r2_h_0, q2_h_1, r2_h_1, q2_h_2, r2_h_2, q2_h_3, r2_h_3, q2_h_4, r2_h_4, q2_h_5, r2_h_5, q2_h_6, r2_h_6, z2_h]
  have r3_h_0 : w3.frozen? ⟨w.heap.size, 0, none⟩ = false := by rw [kf3 _ _ (by first | assumption | (simp; done) | (simp; omega) | omega)]; simp [go_sem, q2_h_0, r2_h_0, q2_h_1, r2_h_1, q2_h_2, r2_h_2, q2_h_3, r2_h_3, q2_h_4, r2_h_4, q2_h_5, r2_h_5, q2_h_6, r2_h_6, z2_h]
  have q3_h_1 : w3.cell? ⟨w.heap.size, 1, none⟩ = some (.int .i64 b) := by rw [kc3 _ _ (by first | assumption | (simp; done) | (simp; omega) | omega)]; simp [go_sem, q2_h_0, r2_h_0, q2_h_1, r2_h_1, q2_h_2, r2_h_2, q2_h_3, r2_h_3, q2_h_4, r2_h_4, q2_h_5, r2_h_5, q2_h_6, r2_h_6, z2_h]
  have r3_h_1 : w3.frozen? ⟨w.heap.size, 1, none⟩ = false := by rw [kf3 _ _ (by first | assumption | (simp; done) | (simp; omega) | omega)]; simp [go_sem, q2_h_0, r2_h_0, q2_h_1, r2_h_1, q2_h_2, r2_h_2, q2_h_3, r2_h_3, q2_h_4, r2_h_4, q2_h_5, r2_h_5, q2_h_6, r2_h_6, z2_h]
  have q3_h_2 : w3.cell? ⟨w.heap.size, 2, none⟩ = some (.int .i64 c) := by rw [kc3 _ _ (by first | assumption | (simp; done) | (simp; omega) | omega)]; simp [go_sem, q2_h_0, r2_h_0, q2_h_1, r2_h_1, q2_h_2, r2_h_2, q2_h_3, r2_h_3, q2_h_4, r2_h_4, q2_h_5, r2_h_5, q2_h_6, r2_h_6, z2_h]
  have r3_h_2 : w3.frozen? ⟨w.heap.size, 2, none⟩ = false := by rw [kf3 _ _ (by first | assumption | (simp; done) | (simp; omega) | omega)]; simp [go_sem, q2_h_0, r2_h_0, q2_h_1, r2_h_1, q2_h_2, r2_h_2, q2_h_3, r2_h_3, q2_h_4, r2_h_4, q2_h_5, r2_h_5, q2_h_6, r2_h_6, z2_h]
  have q3_h_3 : w3.cell? ⟨w.heap.size, 3, none⟩ = some (.int .i64 d) := by rw [kc3 _ _ (by first | assumption | (simp; done) | (simp; omega) | omega)]; simp [go_sem, q2_h_0, r2_h_0, q2_h_1, r2_h_1, q2_h_2, r2_h_2, q2_h_3, r2_h_3, q2_h_4, r2_h_4, q2_h_5, r2_h_5, q2_h_6, r2_h_6, z2_h]
  have r3_h_3 : w3.frozen? ⟨w.heap.size, 3, none⟩ = false := by rw [kf3 _ _ (by first | assumption | (simp; done) | (simp; omega) | omega)]; simp [go_sem, q2_h_0, r2_h_0, q2_h_1, r2_h_1, q2_h_2, r2_h_2, q2_h_3, r2_h_3, q2_h_4, r2_h_4, q2_h_5, r2_h_5, q2_h_6, r2_h_6, z2_h]
  have q3_h_4 : w3.cell? ⟨w.heap.size, 4, none⟩ = some (.int .i64 e) := by rw [kc3 _ _ (by first | assumption | (simp; done) | (simp; omega) | omega)]; simp [go_sem, q2_h_0, r2_h_0, q2_h_1, r2_h_1, q2_h_2, r2_h_2, q2_h_3, r2_h_3, q2_h_4, r2_h_4, q2_h_5, r2_h_5, q2_h_6, r2_h_6, z2_h]
  have r3_h_4 : w3.frozen? ⟨w.heap.size, 4, none⟩ = false := by rw [kf3 _ _ (by first | assumption | (simp; done) | (simp; omega) | omega)]; simp [go_sem, q2_h_0, r2_h_0, q2_h_1, r2_h_1, q2_h_2, r2_h_2, q2_h_3, r2_h_3, q2_h_4, r2_h_4, q2_h_5, r2_h_5, q2_h_6, r2_h_6, z2_h]
  have q3_h_5 : w3.cell? ⟨w.heap.size, 5, none⟩ = some (.int .i64 f) := by rw [kc3 _ _ (by first | assumption | (simp; done) | (simp; omega) | omega)]; simp [go_sem, q2_h_0, r2_h_0, q2_h_1, r2_h_1, q2_h_2, r2_h_2, q2_h_3, r2_h_3, q2_h_4, r2_h_4, q2_h_5, r2_h_5, q2_h_6, r2_h_6, z2_h]
  have r3_h_5 : w3.frozen? ⟨w.heap.size, 5, none⟩ = false := by rw [kf3 _ _ (by first | assumption | (simp; done) | (simp; omega) | omega)]; simp [go_sem, q2_h_0, r2_h_0, q2_h_1, r2_h_1, q2_h_2, r2_h_2, q2_h_3, r2_h_3, q2_h_4, r2_h_4, q2_h_5, r2_h_5, q2_h_6, r2_h_6, z2_h]
  have q3_h_6 : w3.cell? ⟨w.heap.size, 6, none⟩ = some (.slice (some ad) l.length cap) := by rw [kc3 _ _ (by first | assumption | (simp; done) | (simp; omega) | omega)]; simp [go_sem, q2_h_0, r2_h_0, q2_h_1, r2_h_1, q2_h_2, r2_h_2, q2_h_3, r2_h_3, q2_h_4, r2_h_4, q2_h_5, r2_h_5, q2_h_6, r2_h_6, z2_h]
  have r3_h_6 : w3.frozen? ⟨w.heap.size, 6, none⟩ = false := by rw [kf3 _ _ (by first | assumption | (simp; done) | (simp; omega) | omega)]; simp [go_sem, q2_h_0, r2_h_0, q2_h_1, r2_h_1, q2_h_2, r2_h_2, q2_h_3, r2_h_3, q2_h_4, r2_h_4, q2_h_5, r2_h_5, q2_h_6, r2_h_6, z2_h]
  have z3_h : w.heap.size < w3.heap.size := kz3 _ (by first | assumption | (simp; done) | (simp; omega) | omega)
  clear kc3 kf3 kz3 ky3 kx3 kv3 ku3 hb3 q2_h_0 r2_h_0 q2_h_1 r2_h_1 q2_h_2 r2_h_2 q2_h_3 r2_h_3 q2_h_4 r2_h_4 q2_h_5 r2_h_5 q2_h_6 r2_h_6 z2_h
  go_wp2
  go_ret
  refine ⟨rfl, ?_⟩
  (repeat (first | with_reducible exact Below.refl _ _ | with_reducible assumption | with_reducible refine balloc ?_ _ | with_reducible refine bdrew ?_ | with_reducible refine bset ?_ ?_ _ | with_reducible exact Nat.le_refl _ | with_reducible refine bsize ?_ | (dsimp only; refine Nat.le_trans ?_ (Nat.le_add_right _ _)) | with_reducible refine Nat.le_trans ?_ (Nat.le_add_right _ _) | (with_reducible refine bstep ?_ (by assumption))))

set_option maxHeartbeats 800000 in
theorem isState_impl_no4 (a b c d e f : Int) (ad : Addr) (cap : Nat) (l : List DepotV) (w : World) (hB : StBd a b c d e f) (hL : LiesG 4 fDepot w ad cap l) (h1 : (amB a b) = true) (h2 : (amB c d) = true) (h3 : (decide (c ≤ d)) = true) (h4 : (amB e f) = false) :
    Calls Try.prog 22 #[.agg #[.int .i64 a, .int .i64 b, .int .i64 c, .int .i64 d, .int .i64 e, .int .i64 f, .slice (some ad) l.length cap]] w fun e w' => e = .returned (.bool false) ∧ Below w.heap.size w w' := by
  obtain ⟨⟨b1, b2⟩, ⟨b3, b4⟩, ⟨b5, b6⟩, ⟨b7, b8⟩, ⟨b9, b10⟩, b11, b12⟩ := hB
  have hlc := hL.hlc
  have hcap := hL.hcap
  go_enter Try.func22, Try.ntmps22
  (go_wp2_with fail; refine (isam_impl _ _ (by omega) (by omega) _).mono ?_; rintro e w1 ⟨rfl, hb1⟩; rw [h1]; (have ha1 : Below w.heap.size w w1 := by (repeat (first | with_reducible exact Below.refl _ _ | with_reducible assumption | with_reducible refine balloc ?_ _ | with_reducible refine bdrew ?_ | with_reducible refine bset ?_ ?_ _ | with_reducible exact Nat.le_refl _ | with_reducible refine bsize ?_ | (dsimp only; refine Nat.le_trans ?_ (Nat.le_add_right _ _)) | with_reducible refine Nat.le_trans ?_ (Nat.le_add_right _ _) | (with_reducible refine bstep ?_ (by assumption))))); obtain ⟨kc1, kf1, kz1, ky1, kx1, kv1, ku1⟩ := bcell hb1)
  have q1_h_0 : w1.cell? ⟨w.heap.size, 0, none⟩ = some (.int .i64 a) := by rw [kc1 _ _ (by first | assumption | (simp; done) | (simp; omega) | omega)]; simp [go_sem]
  have r1_h_0 : w1.frozen? ⟨w.heap.size, 0, none⟩ = false := by rw [kf1 _ _ (by first | assumption | (simp; done) | (simp; omega) | omega)]; simp [go_sem]
  have q1_h_1 : w1.cell? ⟨w.heap.size, 1, none⟩ = some (.int .i64 b) := by rw [kc1 _ _ (by first | assumption | (simp; done) | (simp; omega) | omega)]; simp [go_sem]
  have r1_h_1 : w1.frozen? ⟨w.heap.size, 1, none⟩ = false := by rw [kf1 _ _ (by first | assumption | (simp; done) | (simp; omega) | omega)]; simp [go_sem]
  have q1_h_2 : w1.cell? ⟨w.heap.size, 2, none⟩ = some (.int .i64 c) := by rw [kc1 _ _ (by first | assumption | (simp; done) | (simp; omega) | omega)]; simp [go_sem]
  have r1_h_2 : w1.frozen? ⟨w.heap.size, 2, none⟩ = false := by rw [kf1 _ _ (by first | assumption | (simp; done) | (simp; omega) | omega)]; simp [go_sem]
  have q1_h_3 : w1.cell? ⟨w.heap.size, 3, none⟩ = some (.int .i64 d) := by rw [kc1 _ _ (by first | assumption | (simp; done) | (simp; omega) | omega)]; simp [go_sem]
  have r1_h_3 : w1.frozen? ⟨w.heap.size, 3, none⟩ = false := by rw [kf1 _ _ (by first | assumption | (simp; done) | (simp; omega) | omega)]; simp [go_sem]
  have q1_h_4 : w1.cell? ⟨w.heap.size, 4, none⟩ = some (.int .i64 e) := by rw [kc1 _ _ (by first | assumption | (simp; done) | (simp; omega) | omega)]; simp [go_sem]
  have r1_h_4 : w1.frozen? ⟨w.heap.size, 4, none⟩ = false := by rw [kf1 _ _ (by first | assumption | (simp; done) | (simp; omega) | omega)]; simp [go_sem]
  have q1_h_5 : w1.cell? ⟨w.heap.size, 5, none⟩ = some (.int .i64 f) := by rw [kc1 _ _ (by first | assumption | (simp; done) | (simp; omega) | omega)]; simp [go_sem]
  have r1_h_5 : w1.frozen? ⟨w.heap.size, 5, none⟩ = false := by rw [kf1 _ _ (by first | assumption | (simp; done) | (simp; omega) | omega)]; simp [go_sem]
  have q1_h_6 : w1.cell? ⟨w.heap.size, 6, none⟩ = some (.slice (some ad) l.length cap) := by rw [kc1 _ _ (by first | assumption | (simp; done) | (simp; omega) | omega)]; simp [go_sem]
  have r1_h_6 : w1.frozen? ⟨w.heap.size, 6, none⟩ = false := by rw [kf1 _ _ (by first | assumption | (simp; done) | (simp; omega) | omega)]; simp [go_sem]
  have z1_h : w.heap.size < w1.heap.size := kz1 _ (by first | assumption | (simp; done) | (simp; omega) | omega)
  clear kc1 kf1 kz1 ky1 kx1 kv1 ku1 hb1
  (go_wp2_with fail; refine (isam_impl _ _ (by omega) (by omega) _).mono ?_; rintro e w2 ⟨rfl, hb2⟩; rw [h2]; (have ha2 : Below w.heap.size w w2 := by (repeat (first | with_reducible exact Below.refl _ _ | with_reducible assumption | with_reducible refine balloc ?_ _ | with_reducible refine bdrew ?_ | with_reducible refine bset ?_ ?_ _ | with_reducible exact Nat.le_refl _ | with_reducible refine bsize ?_ | (dsimp only; refine Nat.le_trans ?_ (Nat.le_add_right _ _)) | with_reducible refine Nat.le_trans ?_ (Nat.le_add_right _ _) | (with_reducible refine bstep ?_ (by assumption))))); obtain ⟨kc2, kf2, kz2, ky2, kx2, kv2, ku2⟩ := bcell hb2)
  have q2_h_0 : w2.cell? ⟨w.heap.size, 0, none⟩ = some (.int .i64 a) := by rw [kc2 _ _ (by first | assumption | (simp; done) | (simp; omega) | omega)]; simp [go_sem, q1_h_0, r1_h_0, q1_h_1, r1_h_1, q1_h_2, r1_h_2, q1_h_3, r1_h_3, q1_h_4, r1_h_4, q1_h_5, r1_h_5, q1_h_6, r1_h_6, z1_h]
  have r2_h_0 : w2.frozen? ⟨w.heap.size, 0, none⟩ = false := by rw [kf2 _ _ (by first | assumption | (simp; done) | (simp; omega) | omega)]; simp [go_sem, q1_h_0, r1_h_0, q1_h_1, r1_h_1, q1_h_2, r1_h_2, q1_h_3, r1_h_3, q1_h_4, r1_h_4, q1_h_5, r1_h_5, q1_h_6, r1_h_6, z1_h]
  have q2_h_1 : w2.cell? ⟨w.heap.size, 1, none⟩ = some (.int .i64 b) := by rw [kc2 _ _ (by first | assumption | (simp; done) | (simp; omega) | omega)]; simp [go_sem, q1_h_0, r1_h_0, q1_h_1, r1_h_1, q1_h_2, r1_h_2, q1_h_3, r1_h_3, q1_h_4, r1_h_4, q1_h_5, r1_h_5, q1_h_6, r1_h_6, z1_h]
  have r2_h_1 : w2.frozen? ⟨w.heap.size, 1, none⟩ = false := by rw [kf2 _ _ (by first | assumption | (simp; done) | (simp; omega) | omega)]; simp [go_sem, q1_h_0, r1_h_0, q1_h_1, r1_h_1, q1_h_2, r1_h_2, q1_h_3, r1_h_3, q1_h_4, r1_h_4, q1_h_5, r1_h_5, q1_h_6, r1_h_6, z1_h]
  have q2_h_2 : w2.cell? ⟨w.heap.size, 2, none⟩ = some (.int .i64 c) := by rw [kc2 _ _ (by first | assumption | (simp; done) | (simp; omega) | omega)]; simp [go_sem, q1_h_0, r1_h_0, q1_h_1, r1_h_1, q1_h_2, r1_h_2, q1_h_3, r1_h_3, q1_h_4, r1_h_4, q1_h_5, r1_h_5, q1_h_6, r1_h_6, z1_h]
  have r2_h_2 : w2.frozen? ⟨w.heap.size, 2, none⟩ = false := by rw [kf2 _ _ (by first | assumption | (simp; done) | (simp; omega) | omega)]; simp [go_sem, q1_h_0, r1_h_0, q1_h_1, r1_h_1, q1_h_2, r1_h_2, q1_h_3, r1_h_3, q1_h_4, r1_h_4, q1_h_5, r1_h_5, q1_h_6, r1_h_6, z1_h]
  have q2_h_3 : w2.cell? ⟨w.heap.size, 3, none⟩ = some (.int .i64 d) := by rw [kc2 _ _ (by first | assumption | (simp; done) | (simp; omega) | omega)]; simp [go_sem, q1_h_0, r1_h_0, q1_h_1, r1_h_1, q1_h_2, r1_h_2, q1_h_3, r1_h_3, q1_h_4, r1_h_4, q1_h_5, r1_h_5, q1_h_6, r1_h_6, z1_h]
  have r2_h_3 : w2.frozen? ⟨w.heap.size, 3, none⟩ = false := by rw [kf2 _ _ (by first | assumption | (simp; done) | (simp; omega) | omega)]; simp [go_sem, q1_h_0, r1_h_0, q1_h_1, r1_h_1, q1_h_2, r1_h_2, q1_h_3, r1_h_3, q1_h_4, r1_h_4, q1_h_5, r1_h_5, q1_h_6, r1_h_6, z1_h]
  have q2_h_4 : w2.cell? ⟨w.heap.size, 4, none⟩ = some (.int .i64 e) := by rw [kc2 _ _ (by first | assumption | (simp; done) | (simp; omega) | omega)]; simp [go_sem, q1_h_0, r1_h_0, q1_h_1, r1_h_1, q1_h_2, r1_h_2, q1_h_3, r1_h_3, q1_h_4, r1_h_4, q1_h_5, r1_h_5, q1_h_6, r1_h_6, z1_h]
  have r2_h_4 : w2.frozen? ⟨w.heap.size, 4, none⟩ = false := by rw [kf2 _ _ (by first | assumption | (simp; done) | (simp; omega) | omega)]; simp [go_sem, q1_h_0, r1_h_0, q1_h_1, r1_h_1, q1_h_2, r1_h_2, q1_h_3, r1_h_3, q1_h_4, r1_h_4, q1_h_5, r1_h_5, q1_h_6, r1_h_6, z1_h]
  have q2_h_5 : w2.cell? ⟨w.heap.size, 5, none⟩ = some (.int .i64 f) := by rw [kc2 _ _ (by first | assumption | (simp; done) | (simp; omega) | omega)]; simp [go_sem, q1_h_0, r1_h_0, q1_h_1, r1_h_1, q1_h_2, r1_h_2, q1_h_3, r1_h_3, q1_h_4, r1_h_4, q1_h_5, r1_h_5, q1_h_6, r1_h_6, z1_h]
  have r2_h_5 : w2.frozen? ⟨w.heap.size, 5, none⟩ = false := by rw [kf2 _ _ (by first | assumption | (simp; done) | (simp; omega) | omega)]; simp [go_sem, q1_h_0, r1_h_0, q1_h_1, r1_h_1, q1_h_2, r1_h_2, q1_h_3, r1_h_3, q1_h_4, r1_h_4, q1_h_5, r1_h_5, q1_h_6, r1_h_6, z1_h]
  have q2_h_6 : w2.cell? ⟨w.heap.size, 6, none⟩ = some (.slice (some ad) l.length cap) := by rw [kc2 _ _ (by first | assumption | (simp; done) | (simp; omega) | omega)]; simp [go_sem, q1_h_0, r1_h_0, q1_h_1, r1_h_1, q1_h_2, r1_h_2, q1_h_3, r1_h_3, q1_h_4, r1_h_4, q1_h_5, r1_h_5, q1_h_6, r1_h_6, z1_h]
  have r2_h_6 : w2.frozen? ⟨w.heap.size, 6, none⟩ = false := by rw [kf2 _ _ (by first | assumption | (simp; done) | (simp; omega) | omega)]; simp [go_sem, q1_h_0, r1_h_0, q1_h_1, r1_h_1, q1_h_2, r1_h_2, q1_h_3, r1_h_3, q1_h_4, r1_h_4, q1_h_5, r1_h_5, q1_h_6, r1_h_6, z1_h]
  have z2_h : w.heap.size < w2.heap.size := kz2 _ (by first | assumption | (simp; done) | (simp; omega) | omega)
  clear kc2 kf2 kz2 ky2 kx2 kv2 ku2 hb2 q1_h_0 r1_h_0 q1_h_1 r1_h_1 q1_h_2 r1_h_2 q1_h_3 r1_h_3 q1_h_4 r1_h_4 q1_h_5 r1_h_5 q1_h_6 r1_h_6 z1_h
  (go_wp2_with fail; refine (fits_impl _ _ _).mono ?_; rintro e w3 ⟨rfl, hb3⟩; rw [h3]; (have ha3 : Below w.heap.size w w3 := by (repeat (first | with_reducible exact Below.refl _ _ | with_reducible assumption | with_reducible refine balloc ?_ _ | with_reducible refine bdrew ?_ | with_reducible refine bset ?_ ?_ _ | with_reducible exact Nat.le_refl _ | with_reducible refine bsize ?_ | (dsimp only; refine Nat.le_trans ?_ (Nat.le_add_right _ _)) | with_reducible refine Nat.le_trans ?_ (Nat.le_add_right _ _) | (with_reducible refine bstep ?_ (by assumption))))); obtain ⟨kc3, kf3, kz3, ky3, kx3, kv3, ku3⟩ := bcell hb3)
  have q3_h_0 : w3.cell? ⟨w.heap.size, 0, none⟩ = some (.int .i64 a) := by rw [kc3 _ _ (by first | assumption | (simp; done) | (simp; omega) | omega)]; simp [go_sem, q2_h_0, r2_h_0, q2_h_1, r2_h_1, q2_h_2, r2_h_2, q2_h_3, r2_h_3, q2_h_4, r2_h_4, q2_h_5, r2_h_5, q2_h_6, r2_h_6, z2_h]
  have r3_h_0 : w3.frozen? ⟨w.heap.size, 0, none⟩ = false := by rw [kf3 _ _ (by first | assumption | (simp; done) | (simp; omega) | omega)]; simp [go_sem, q2_h_0, r2_h_0, q2_h_1, r2_h_1, q2_h_2, r2_h_2, q2_h_3, r2_h_3, q2_h_4, r2_h_4, q2_h_5, r2_h_5, q2_h_6, r2_h_6, z2_h]
  have q3_h_1 : w3.cell? ⟨w.heap.size, 1, none⟩ = some (.int .i64 b) := by rw [kc3 _ _ (by first | assumption | (simp; done) | (simp; omega) | omega)]; simp [go_sem, q2_h_0, r2_h_0, q2_h_1, r2_h_1, q2_h_2, r2_h_2, q2_h_3, r2_h_3, q2_h_4, r2_h_4, q2_h_5, r2_h_5, q2_h_6, r2_h_6, z2_h]
  have r3_h_1 : w3.frozen? ⟨w.heap.size, 1, none⟩ = false := by rw [kf3 _ _ (by first | assumption | (simp; done) | (simp; omega) | omega)]; simp [go_sem, q2_h_0, r2_h_0, q2_h_1, r2_h_1, q2_h_2, r2_h_2, q2_h_3, r2_h_3, q2_h_4, r2_h_4, q2_h_5, r2_h_5, q2_h_6, r2_h_6, z2_h]
  have q3_h_2 : w3.cell? ⟨w.heap.size, 2, none⟩ = some (.int .i64 c) := by rw [kc3 _ _ (by first | assumption | (simp; done) | (simp; omega) | omega)]; simp [go_sem, q2_h_0, r2_h_0, q2_h_1, r2_h_1, q2_h_2, r2_h_2, q2_h_3, r2_h_3, q2_h_4, r2_h_4, q2_h_5, r2_h_5, q2_h_6, r2_h_6, z2_h]
  have r3_h_2 : w3.frozen? ⟨w.heap.size, 2, none⟩ = false := by rw [kf3 _ _ (by first | assumption | (simp; done) | (simp; omega) | omega)]; simp [go_sem, q2_h_0, r2_h_0, q2_h_1, r2_h_1, q2_h_2, r2_h_2, q2_h_3, r2_h_3, q2_h_4, r2_h_4, q2_h_5, r2_h_5, q2_h_6, r2_h_6, z2_h]
  have q3_h_3 : w3.cell? ⟨w.heap.size, 3, none⟩ = some (.int .i64 d) := by rw [kc3 _ _ (by first | assumption | (simp; done) | (simp; omega) | omega)]; simp [go_sem, q2_h_0, r2_h_0, q2_h_1, r2_h_1, q2_h_2, r2_h_2, q2_h_3, r2_h_3, q2_h_4, r2_h_4, q2_h_5, r2_h_5, q2_h_6, r2_h_6, z2_h]
  have r3_h_3 : w3.frozen? ⟨w.heap.size, 3, none⟩ = false := by rw [kf3 _ _ (by first | assumption | (simp; done) | (simp; omega) | omega)]; simp [go_sem, q2_h_0, r2_h_0, q2_h_1, r2_h_1, q2_h_2, r2_h_2, q2_h_3, r2_h_3, q2_h_4, r2_h_4, q2_h_5, r2_h_5, q2_h_6, r2_h_6, z2_h]
  have q3_h_4 : w3.cell? ⟨w.heap.size, 4, none⟩ = some (.int .i64 e) := by rw [kc3 _ _ (by first | assumption | (simp; done) | (simp; omega) | omega)]; simp [go_sem, q2_h_0, r2_h_0, q2_h_1, r2_h_1, q2_h_2, r2_h_2, q2_h_3, r2_h_3, q2_h_4, r2_h_4, q2_h_5, r2_h_5, q2_h_6, r2_h_6, z2_h]
  have r3_h_4 : w3.frozen? ⟨w.heap.size, 4, none⟩ = false := by rw [kf3 _ _ (by first | assumption | (simp; done) | (simp; omega) | omega)]; simp [go_sem, q2_h_0, r2_h_0, q2_h_1, r2_h_1, q2_h_2, r2_h_2, q2_h_3, r2_h_3, q2_h_4, r2_h_4, q2_h_5, r2_h_5, q2_h_6, r2_h_6, z2_h]
  have q3_h_5 : w3.cell? ⟨w.heap.size, 5, none⟩ = some (.int .i64 f) := by rw [kc3 _ _ (by first | assumption | (simp; done) | (simp; omega) | omega)]; simp [go_sem, q2_h_0, r2_h_0, q2_h_1, r2_h_1, q2_h_2, r2_h_2, q2_h_3, r2_h_3, q2_h_4, r2_h_4, q2_h_5, r2_h_5, q2_h_6, r2_h_6, z2_h]
  have r3_h_5 : w3.frozen? ⟨w.heap.size, 5, none⟩ = false := by rw [kf3 _ _ (by first | assumption | (simp; done) | (simp; omega) | omega)]; simp [go_sem, q2_h_0, r2_h_0, q2_h_1, r2_h_1, q2_h_2, r2_h_2, q2_h_3, r2_h_3, q2_h_4, r2_h_4, q2_h_5, r2_h_5, q2_h_6, r2_h_6, z2_h]
  have q3_h_6 : w3.cell? ⟨w.heap.size, 6, none⟩ = some (.slice (some ad) l.length cap) := by rw [kc3 _ _ (by first | assumption | (simp; done) | (simp; omega) | omega)]; simp [go_sem, q2_h_0, r2_h_0, q2_h_1, r2_h_1, q2_h_2, r2_h_2, q2_h_3, r2_h_3, q2_h_4, r2_h_4, q2_h_5, r2_h_5, q2_h_6, r2_h_6, z2_h]
  have r3_h_6 : w3.frozen? ⟨w.heap.size, 6, none⟩ = false := by rw [kf3 _ _ (by first | assumption | (simp; done) | (simp; omega) | omega)]; simp [go_sem, q2_h_0, r2_h_0, q2_h_1, r2_h_1, q2_h_2, r2_h_2, q2_h_3, r2_h_3, q2_h_4, r2_h_4, q2_h_5, r2_h_5, q2_h_6, r2_h_6, z2_h]
  have z3_h : w.heap.size < w3.heap.size := kz3 _ (by first | assumption | (simp; done) | (simp; omega) | omega)
  clear kc3 kf3 kz3 ky3 kx3 kv3 ku3 hb3 q2_h_0 r2_h_0 q2_h_1 r2_h_1 q2_h_2 r2_h_2 q2_h_3 r2_h_3 q2_h_4 r2_h_4 q2_h_5 r2_h_5 q2_h_6 r2_h_6 z2_h
  (go_wp2_with fail; refine (isam_impl _ _ (by omega) (by omega) _).mono ?_; rintro e w4 ⟨rfl, hb4⟩; rw [h4]; (have ha4 : Below w.heap.size w w4 := by (repeat (first | with_reducible exact Below.refl _ _ | with_reducible assumption | with_reducible refine balloc ?_ _ | with_reducible refine bdrew ?_ | with_reducible refine bset ?_ ?_ _ | with_reducible exact Nat.le_refl _ | with_reducible refine bsize ?_ | (dsimp only; refine Nat.le_trans ?_ (Nat.le_add_right _ _)) | with_reducible refine Nat.le_trans ?_ (Nat.le_add_right _ _) | (with_reducible refine bstep ?_ (by assumption))))); obtain ⟨kc4, kf4, kz4, ky4, kx4, kv4, ku4⟩ := bcell hb4)
  have q4_h_0 : w4.cell? ⟨w.heap.size, 0, none⟩ = some (.int .i64 a) := by rw [kc4 _ _ (by first | assumption | (simp; done) | (simp; omega) | omega)]; simp [go_sem, q3_h_0, r3_h_0, q3_h_1, r3_h_1, q3_h_2, r3_h_2, q3_h_3, r3_h_3, q3_h_4, r3_h_4, q3_h_5, r3_h_5, q3_h_6, r3_h_6, z3_h]
  have r4_h_0 : w4.frozen? ⟨w.heap.size, 0, none⟩ = false := by rw [kf4 _ _ (by first | assumption | (simp; done) | (simp; omega) | omega)]; simp [go_sem, q3_h_0, r3_h_0, q3_h_1, r3_h_1, q3_h_2, r3_h_2, q3_h_3, r3_h_3, q3_h_4, r3_h_4, q3_h_5, r3_h_5, q3_h_6, r3_h_6, z3_h]
  have q4_h_1 : w4.cell? ⟨w.heap.size, 1, none⟩ = some (.int .i64 b) := by rw [kc4 _ _ (by first | assumption | (simp; done) | (simp; omega) | omega)]; simp [go_sem, q3_h_0, r3_h_0, q3_h_1, r3_h_1, q3_h_2, r3_h_2, q3_h_3, r3_h_3, q3_h_4, r3_h_4, q3_h_5, r3_h_5, q3_h_6, r3_h_6, z3_h]
  have r4_h_1 : w4.frozen? ⟨w.heap.size, 1, none⟩ = false := by rw [kf4 _ _ (by first | assumption | (simp; done) | (simp; omega) | omega)]; simp [go_sem, q3_h_0, r3_h_0, q3_h_1, r3_h_1, q3_h_2, r3_h_2, q3_h_3, r3_h_3, q3_h_4, r3_h_4, q3_h_5, r3_h_5, q3_h_6, r3_h_6, z3_h]
  have q4_h_2 : w4.cell? ⟨w.heap.size, 2, none⟩ = some (.int .i64 c) := by rw [kc4 _ _ (by first | assumption | (simp; done) | (simp; omega) | omega)]; simp [go_sem, q3_h_0, r3_h_0, q3_h_1, r3_h_1, q3_h_2, r3_h_2, q3_h_3, r3_h_3, q3_h_4, r3_h_4, q3_h_5, r3_h_5, q3_h_6, r3_h_6, z3_h]
  have r4_h_2 : w4.frozen? ⟨w.heap.size, 2, none⟩ = false := by rw [kf4 _ _ (by first | assumption | (simp; done) | (simp; omega) | omega)]; simp [go_sem, q3_h_0, r3_h_0, q3_h_1, r3_h_1, q3_h_2, r3_h_2, q3_h_3, r3_h_3, q3_h_4, r3_h_4, q3_h_5, r3_h_5, q3_h_6, r3_h_6, z3_h]
  have q4_h_3 : w4.cell? ⟨w.heap.size, 3, none⟩ = some (.int .i64 d) := by rw [kc4 _ _ (by first | assumption | (simp; done) | (simp; omega) | omega)]; simp [go_sem, q3_h_0, r3_h_0, q3_h_1, r3_h_1, q3_h_2, r3_h_2, q3_h_3, r3_h_3, q3_h_4, r3_h_4, q3_h_5, r3_h_5, q3_h_6, r3_h_6, z3_h]
  have r4_h_3 : w4.frozen? ⟨w.heap.size, 3, none⟩ = false := by rw [kf4 _ _ (by first | assumption | (simp; done) | (simp; omega) | omega)]; simp [go_sem, q3_h_0, r3_h_0, q3_h_1, r3_h_1, q3_h_2, r3_h_2, q3_h_3, r3_h_3, q3_h_4, r3_h_4, q3_h_5, r3_h_5, q3_h_6, r3_h_6, z3_h]
  have q4_h_4 : w4.cell? ⟨w.heap.size, 4, none⟩ = some (.int .i64 e) := by rw [kc4 _ _ (by first | assumption | (simp; done) | (simp; omega) | omega)]; simp [go_sem, q3_h_0, r3_h_0, q3_h_1, r3_h_1, q3_h_2, r3_h_2, q3_h_3, r3_h_3, q3_h_4, r3_h_4, q3_h_5, r3_h_5, q3_h_6, r3_h_6, z3_h]
  have r4_h_4 : w4.frozen? ⟨w.heap.size, 4, none⟩ = false := by rw [kf4 _ _ (by first | assumption | (simp; done) | (simp; omega) | omega)]; simp [go_sem, q3_h_0, r3_h_0, q3_h_1, r3_h_1, q3_h_2, r3_h_2, q3_h_3, r3_h_3, q3_h_4, r3_h_4, q3_h_5, r3_h_5, q3_h_6, r3_h_6, z3_h]
  have q4_h_5 : w4.cell? ⟨w.heap.size, 5, none⟩ = some (.int .i64 f) := by rw [kc4 _ _ (by first | assumption | (simp; done) | (simp; omega) | omega)]; simp [go_sem, q3_h_0, r3_h_0, q3_h_1, r3_h_1, q3_h_2, r3_h_2, q3_h_3, r3_h_3, q3_h_4, r3_h_4, q3_h_5, r3_h_5, q3_h_6, r3_h_6, z3_h]
  have r4_h_5 : w4.frozen? ⟨w.heap.size, 5, none⟩ = false := by rw [kf4 _ _ (by first | assumption | (simp; done) | (simp; omega) | omega)]; simp [go_sem, q3_h_0, r3_h_0, q3_h_1, r3_h_1, q3_h_2, r3_h_2, q3_h_3, r3_h_3, q3_h_4, r3_h_4, q3_h_5, r3_h_5, q3_h_6, r3_h_6, z3_h]
  have q4_h_6 : w4.cell? ⟨w.heap.size, 6, none⟩ = some (.slice (some ad) l.length cap) := by rw [kc4 _ _ (by first | assumption | (simp; done) | (simp; omega) | omega)]; simp [go_sem, q3_h_0, r3_h_0, q3_h_1, r3_h_1, q3_h_2, r3_h_2, q3_h_3, r3_h_3, q3_h_4, r3_h_4, q3_h_5, r3_h_5, q3_h_6, r3_h_6, z3_h]
  have r4_h_6 : w4.frozen? ⟨w.heap.size, 6, none⟩ = false := by rw [kf4 _ _ (by first | assumption | (simp; done) | (simp; omega) | omega)]; simp [go_sem, q3_h_0, r3_h_0, q3_h_1, r3_h_1, q3_h_2, r3_h_2, q3_h_3, r3_h_3, q3_h_4, r3_h_4, q3_h_5, r3_h_5, q3_h_6, r3_h_6, z3_h]
  have z4_h : w.heap.size < w4.heap.size := kz4 _ (by first | assumption | (simp; done) | (simp; omega) | omega)
  clear kc4 kf4 kz4 ky4 kx4 kv4 ku4 hb4 q3_h_0 r3_h_0 q3_h_1 r3_h_1 q3_h_2 r3_h_2 q3_h_3 r3_h_3 q3_h_4 r3_h_4 q3_h_5 r3_h_5 q3_h_6 r3_h_6 z3_h
  go_wp2
  go_ret
  refine ⟨rfl, ?_⟩
  (repeat (first | with_reducible exact Below.refl _ _ | with_reducible assumption | with_reducible refine balloc ?_ _ | with_reducible refine bdrew ?_ | with_reducible refine bset ?_ ?_ _ | with_reducible exact Nat.le_refl _ | with_reducible refine bsize ?_ | (dsimp only; refine Nat.le_trans ?_ (Nat.le_add_right _ _)) | with_reducible refine Nat.le_trans ?_ (Nat.le_add_right _ _) | (with_reducible refine bstep ?_ (by assumption))))

set_option maxHeartbeats 800000 in
theorem isState_impl_no5 (a b c d e f : Int) (ad : Addr) (cap : Nat) (l : List DepotV) (w : World) (hB : StBd a b c d e f) (hL : LiesG 4 fDepot w ad cap l) (h1 : (amB a b) = true) (h2 : (amB c d) = true) (h3 : (decide (c ≤ d)) = true) (h4 : (amB e f) = true) (h5 : 20 < l.length) :
    Calls Try.prog 22 #[.agg #[.int .i64 a, .int .i64 b, .int .i64 c, .int .i64 d, .int .i64 e, .int .i64 f, .slice (some ad) l.length cap]] w fun e w' => e = .returned (.bool false) ∧ Below w.heap.size w w' := by
  obtain ⟨⟨b1, b2⟩, ⟨b3, b4⟩, ⟨b5, b6⟩, ⟨b7, b8⟩, ⟨b9, b10⟩, b11, b12⟩ := hB
  have hlc := hL.hlc
  have hcap := hL.hcap
  go_enter Try.func22, Try.ntmps22
  (go_wp2_with fail; refine (isam_impl _ _ (by omega) (by omega) _).mono ?_; rintro e w1 ⟨rfl, hb1⟩; rw [h1]; (have ha1 : Below w.heap.size w w1 := by (repeat (first | with_reducible exact Below.refl _ _ | with_reducible assumption | with_reducible refine balloc ?_ _ | with_reducible refine bdrew ?_ | with_reducible refine bset ?_ ?_ _ | with_reducible exact Nat.le_refl _ | with_reducible refine bsize ?_ | (dsimp only; refine Nat.le_trans ?_ (Nat.le_add_right _ _)) | with_reducible refine Nat.le_trans ?_ (Nat.le_add_right _ _) | (with_reducible refine bstep ?_ (by assumption))))); obtain ⟨kc1, kf1, kz1, ky1, kx1, kv1, ku1⟩ := bcell hb1)
  have q1_h_0 : w1.cell? ⟨w.heap.size, 0, none⟩ = some (.int .i64 a) := by rw [kc1 _ _ (by first | assumption | (simp; done) | (simp; omega) | omega)]; simp [go_sem]
  have r1_h_0 : w1.frozen? ⟨w.heap.size, 0, none⟩ = false := by rw [kf1 _ _ (by first | assumption | (simp; done) | (simp; omega) | omega)]; simp [go_sem]
  have q1_h_1 : w1.cell? ⟨w.heap.size, 1, none⟩ = some (.int .i64 b) := by rw [kc1 _ _ (by first | assumption | (simp; done) | (simp; omega) | omega)]; simp [go_sem]
  have r1_h_1 : w1.frozen? ⟨w.heap.size, 1, none⟩ = false := by rw [kf1 _ _ (by first | assumption | (simp; done) | (simp; omega) | omega)]; simp [go_sem]
  have q1_h_2 : w1.cell? ⟨w.heap.size, 2, none⟩ = some (.int .i64 c) := by rw [kc1 _ _ (by first | assumption | (simp; done) | (simp; omega) | omega)]; simp [go_sem]
  have r1_h_2 : w1.frozen? ⟨w.heap.size, 2, none⟩ = false := by rw [kf1 _ _ (by first | assumption | (simp; done) | (simp; omega) | omega)]; simp [go_sem]
  have q1_h_3 : w1.cell? ⟨w.heap.size, 3, none⟩ = some (.int .i64 d) := by rw [kc1 _ _ (by first | assumption | (simp; done) | (simp; omega) | omega)]; simp [go_sem]
  have r1_h_3 : w1.frozen? ⟨w.heap.size, 3, none⟩ = false := by rw [kf1 _ _ (by first | assumption | (simp; done) | (simp; omega) | omega)]; simp [go_sem]
  have q1_h_4 : w1.cell? ⟨w.heap.size, 4, none⟩ = some (.int .i64 e) := by rw [kc1 _ _ (by first | assumption | (simp; done) | (simp; omega) | omega)]; simp [go_sem]
  have r1_h_4 : w1.frozen? ⟨w.heap.size, 4, none⟩ = false := by rw [kf1 _ _ (by first | assumption | (simp; done) | (simp; omega) | omega)]; simp [go_sem]
  have q1_h_5 : w1.cell? ⟨w.heap.size, 5, none⟩ = some (.int .i64 f) := by rw [kc1 _ _ (by first | assumption | (simp; done) | (simp; omega) | omega)]; simp [go_sem]
  have r1_h_5 : w1.frozen? ⟨w.heap.size, 5, none⟩ = false := by rw [kf1 _ _ (by first | assumption | (simp; done) | (simp; omega) | omega)]; simp [go_sem]
  have q1_h_6 : w1.cell? ⟨w.heap.size, 6, none⟩ = some (.slice (some ad) l.length cap) := by rw [kc1 _ _ (by first | assumption | (simp; done) | (simp; omega) | omega)]; simp [go_sem]
  have r1_h_6 : w1.frozen? ⟨w.heap.size, 6, none⟩ = false := by rw [kf1 _ _ (by first | assumption | (simp; done) | (simp; omega) | omega)]; simp [go_sem]
  have z1_h : w.heap.size < w1.heap.size := kz1 _ (by first | assumption | (simp; done) | (simp; omega) | omega)
  clear kc1 kf1 kz1 ky1 kx1 kv1 ku1 hb1
  (go_wp2_with fail; refine (isam_impl _ _ (by omega) (by omega) _).mono ?_; rintro e w2 ⟨rfl, hb2⟩; rw [h2]; (have ha2 : Below w.heap.size w w2 := by (repeat (first | with_reducible exact Below.refl _ _ | with_reducible assumption | with_reducible refine balloc ?_ _ | with_reducible refine bdrew ?_ | with_reducible refine bset ?_ ?_ _ | with_reducible exact Nat.le_refl _ | with_reducible refine bsize ?_ | (dsimp only; refine Nat.le_trans ?_ (Nat.le_add_right _ _)) | with_reducible refine Nat.le_trans ?_ (Nat.le_add_right _ _) | (with_reducible refine bstep ?_ (by assumption))))); obtain ⟨kc2, kf2, kz2, ky2, kx2, kv2, ku2⟩ := bcell hb2)
  have q2_h_0 : w2.cell? ⟨w.heap.size, 0, none⟩ = some (.int .i64 a) := by rw [kc2 _ _ (by first | assumption | (simp; done) | (simp; omega) | omega)]; simp [go_sem, q1_h_0, r1_h_0, q1_h_1, r1_h_1, q1_h_2, r1_h_2, q1_h_3, r1_h_3, q1_h_4, r1_h_4, q1_h_5, r1_h_5, q1_h_6, r1_h_6, z1_h]
  have r2_h_0 : w2.frozen? ⟨w.heap.size, 0, none⟩ = false := by rw [kf2 _ _ (by first | assumption | (simp; done) | (simp; omega) | omega)]; simp [go_sem, q1_h_0, r1_h_0, q1_h_1, r1_h_1, q1_h_2, r1_h_2, q1_h_3, r1_h_3, q1_h_4, r1_h_4, q1_h_5, r1_h_5, q1_h_6, r1_h_6, z1_h]
  have q2_h_1 : w2.cell? ⟨w.heap.size, 1, none⟩ = some (.int .i64 b) := by rw [kc2 _ _ (by first | assumption | (simp; done) | (simp; omega) | omega)]; simp [go_sem, q1_h_0, r1_h_0, q1_h_1, r1_h_1, q1_h_2, r1_h_2, q1_h_3, r1_h_3, q1_h_4, r1_h_4, q1_h_5, r1_h_5, q1_h_6, r1_h_6, z1_h]
  have r2_h_1 : w2.frozen? ⟨w.heap.size, 1, none⟩ = false := by rw [kf2 _ _ (by first | assumption | (simp; done) | (simp; omega) | omega)]; simp [go_sem, q1_h_0, r1_h_0, q1_h_1, r1_h_1, q1_h_2, r1_h_2, q1_h_3, r1_h_3, q1_h_4, r1_h_4, q1_h_5, r1_h_5, q1_h_6, r1_h_6, z1_h]
  have q2_h_2 : w2.cell? ⟨w.heap.size, 2, none⟩ = some (.int .i64 c) := by rw [kc2 _ _ (by first | assumption | (simp; done) | (simp; omega) | omega)]; simp [go_sem, q1_h_0, r1_h_0, q1_h_1, r1_h_1, q1_h_2, r1_h_2, q1_h_3, r1_h_3, q1_h_4, r1_h_4, q1_h_5, r1_h_5, q1_h_6, r1_h_6, z1_h]
  have r2_h_2 : w2.frozen? ⟨w.heap.size, 2, none⟩ = false := by rw [kf2 _ _ (by first | assumption | (simp; done) | (simp; omega) | omega)]; simp [go_sem, q1_h_0, r1_h_0, q1_h_1, r1_h_1, q1_h_2, r1_h_2, q1_h_3, r1_h_3, q1_h_4, r1_h_4, q1_h_5, r1_h_5, q1_h_6, r1_h_6, z1_h]
  have q2_h_3 : w2.cell? ⟨w.heap.size, 3, none⟩ = some (.int .i64 d) := by rw [kc2 _ _ (by first | assumption | (simp; done) | (simp; omega) | omega)]; simp [go_sem, q1_h_0, r1_h_0, q1_h_1, r1_h_1, q1_h_2, r1_h_2, q1_h_3, r1_h_3, q1_h_4, r1_h_4, q1_h_5, r1_h_5, q1_h_6, r1_h_6, z1_h]
  have r2_h_3 : w2.frozen? ⟨w.heap.size, 3, none⟩ = false := by rw [kf2 _ _ (by first | assumption | (simp; done) | (simp; omega) | omega)]; simp [go_sem, q1_h_0, r1_h_0, q1_h_1, r1_h_1, q1_h_2, r1_h_2, q1_h_3, r1_h_3, q1_h_4, r1_h_4, q1_h_5, r1_h_5, q1_h_6, r1_h_6, z1_h]
  have q2_h_4 : w2.cell? ⟨w.heap.size, 4, none⟩ = some (.int .i64 e) := by rw [kc2 _ _ (by first | assumption | (simp; done) | (simp; omega) | omega)]; simp [go_sem, q1_h_0, r1_h_0, q1_h_1, r1_h_1, q1_h_2, r1_h_2, q1_h_3, r1_h_3, q1_h_4, r1_h_4, q1_h_5, r1_h_5, q1_h_6, r1_h_6, z1_h]
  have r2_h_4 : w2.frozen? ⟨w.heap.size, 4, none⟩ = false := by rw [kf2 _ _ (by first | assumption | (simp; done) | (simp; omega) | omega)]; simp [go_sem, q1_h_0, r1_h_0, q1_h_1, r1_h_1, q1_h_2, r1_h_2, q1_h_3, r1_h_3, q1_h_4, r1_h_4, q1_h_5, r1_h_5, q1_h_6, r1_h_6, z1_h]
  have q2_h_5 : w2.cell? ⟨w.heap.size, 5, none⟩ = some (.int .i64 f) := by rw [kc2 _ _ (by first | assumption | (simp; done) | (simp; omega) | omega)]; simp [go_sem, q1_h_0, r1_h_0, q1_h_1, r1_h_1, q1_h_2, r1_h_2, q1_h_3, r1_h_3, q1_h_4, r1_h_4, q1_h_5, r1_h_5, q1_h_6, r1_h_6, z1_h]
  have r2_h_5 : w2.frozen? ⟨w.heap.size, 5, none⟩ = false := by rw [kf2 _ _ (by first | assumption | (simp; done) | (simp; omega) | omega)]; simp [go_sem, q1_h_0, r1_h_0, q1_h_1, r1_h_1, q1_h_2, r1_h_2, q1_h_3, r1_h_3, q1_h_4, r1_h_4, q1_h_5, r1_h_5, q1_h_6, r1_h_6, z1_h]
  have q2_h_6 : w2.cell? ⟨w.heap.size, 6, none⟩ = some (.slice (some ad) l.length cap) := by rw [kc2 _ _ (by first | assumption | (simp; done) | (simp; omega) | omega)]; simp [go_sem, q1_h_0, r1_h_0, q1_h_1, r1_h_1, q1_h_2, r1_h_2, q1_h_3, r1_h_3, q1_h_4, r1_h_4, q1_h_5, r1_h_5, q1_h_6, r1_h_6, z1_h]
  have r2_h_6 : w2.frozen? ⟨w.heap.size, 6, none⟩ = false := by rw [kf2 _ _ (by first | assumption | (simp; done) | (simp; omega) | omega)]; simp [go_sem, q1_h_0, r1_h_0, q1_h_1, r1_h_1, q1_h_2, r1_h_2, q1_h_3, r1_h_3, q1_h_4, r1_h_4, q1_h_5, r1_h_5, q1_h_6, r1_h_6, z1_h]
  have z2_h : w.heap.size < w2.heap.size := kz2 _ (by first | assumption | (simp; done) | (simp; omega) | omega)
  clear kc2 kf2 kz2 ky2 kx2 kv2 ku2 hb2 q1_h_0 r1_h_0 q1_h_1 r1_h_1 q1_h_2 r1_h_2 q1_h_3 r1_h_3 q1_h_4 r1_h_4 q1_h_5 r1_h_5 q1_h_6 r1_h_6 z1_h
  (go_wp2_with fail; refine (fits_impl _ _ _).mono ?_; rintro e w3 ⟨rfl, hb3⟩; rw [h3]; (have ha3 : Below w.heap.size w w3 := by (repeat (first | with_reducible exact Below.refl _ _ | with_reducible assumption | with_reducible refine balloc ?_ _ | with_reducible refine bdrew ?_ | with_reducible refine bset ?_ ?_ _ | with_reducible exact Nat.le_refl _ | with_reducible refine bsize ?_ | (dsimp only; refine Nat.le_trans ?_ (Nat.le_add_right _ _)) | with_reducible refine Nat.le_trans ?_ (Nat.le_add_right _ _) | (with_reducible refine bstep ?_ (by assumption))))); obtain ⟨kc3, kf3, kz3, ky3, kx3, kv3, ku3⟩ := bcell hb3)
  have q3_h_0 : w3.cell? ⟨w.heap.size, 0, none⟩ = some (.int .i64 a) := by rw [kc3 _ _ (by first | assumption | (simp; done) | (simp; omega) | omega)]; simp [go_sem, q2_h_0, r2_h_0, q2_h_1, r2_h_1, q2_h_2, r2_h_2, q2_h_3, r2_h_3, q2_h_4, r2_h_4, q2_h_5, r2_h_5, q2_h_6, r2_h_6, z2_h]
  have r3_h_0 : w3.frozen? ⟨w.heap.size, 0, none⟩ = false := by rw [kf3 _ _ (by first | assumption | (simp; done) | (simp; omega) | omega)]; simp [go_sem, q2_h_0, r2_h_0, q2_h_1, r2_h_1, q2_h_2, r2_h_2, q2_h_3, r2_h_3, q2_h_4, r2_h_4, q2_h_5, r2_h_5, q2_h_6, r2_h_6, z2_h]
  have q3_h_1 : w3.cell? ⟨w.heap.size, 1, none⟩ = some (.int .i64 b) := by rw [kc3 _ _ (by first | assumption | (simp; done) | (simp; omega) | omega)]; simp [go_sem, q2_h_0, r2_h_0, q2_h_1, r2_h_1, q2_h_2, r2_h_2, q2_h_3, r2_h_3, q2_h_4, r2_h_4, q2_h_5, r2_h_5, q2_h_6, r2_h_6, z2_h]
  have r3_h_1 : w3.frozen? ⟨w.heap.size, 1, none⟩ = false := by rw [kf3 _ _ (by first | assumption | (simp; done) | (simp; omega) | omega)]; simp [go_sem, q2_h_0, r2_h_0, q2_h_1, r2_h_1, q2_h_2, r2_h_2, q2_h_3, r2_h_3, q2_h_4, r2_h_4, q2_h_5, r2_h_5, q2_h_6, r2_h_6, z2_h]
  have q3_h_2 : w3.cell? ⟨w.heap.size, 2, none⟩ = some (.int .i64 c) := by rw [kc3 _ _ (by first | assumption | (simp; done) | (simp; omega) | omega)]; simp [go_sem, q2_h_0, r2_h_0, q2_h_1, r2_h_1, q2_h_2, r2_h_2, q2_h_3, r2_h_3, q2_h_4, r2_h_4, q2_h_5, r2_h_5, q2_h_6, r2_h_6, z2_h]
  have r3_h_2 : w3.frozen? ⟨w.heap.size, 2, none⟩ = false := by rw [kf3 _ _ (by first | assumption | (simp; done) | (simp; omega) | omega)]; simp [go_sem, q2_h_0, r2_h_0, q2_h_1, r2_h_1, q2_h_2, r2_h_2, q2_h_3, r2_h_3, q2_h_4, r2_h_4, q2_h_5, r2_h_5, q2_h_6, r2_h_6, z2_h]
  have q3_h_3 : w3.cell? ⟨w.heap.size, 3, none⟩ = some (.int .i64 d) := by rw [kc3 _ _ (by first | assumption | (simp; done) | (simp; omega) | omega)]; simp [go_sem, q2_h_0, r2_h_0, q2_h_1, r2_h_1, q2_h_2, r2_h_2, q2_h_3, r2_h_3, q2_h_4, r2_h_4, q2_h_5, r2_h_5, q2_h_6, r2_h_6, z2_h]
  have r3_h_3 : w3.frozen? ⟨w.heap.size, 3, none⟩ = false := by rw [kf3 _ _ (by first | assumption | (simp; done) | (simp; omega) | omega)]; simp [go_sem, q2_h_0, r2_h_0, q2_h_1, r2_h_1, q2_h_2, r2_h_2, q2_h_3, r2_h_3, q2_h_4, r2_h_4, q2_h_5, r2_h_5, q2_h_6, r2_h_6, z2_h]
  have q3_h_4 : w3.cell? ⟨w.heap.size, 4, none⟩ = some (.int .i64 e) := by rw [kc3 _ _ (by first | assumption | (simp; done) | (simp; omega) | omega)]; simp [go_sem, q2_h_0, r2_h_0, q2_h_1, r2_h_1, q2_h_2, r2_h_2, q2_h_3, r2_h_3, q2_h_4, r2_h_4, q2_h_5, r2_h_5, q2_h_6, r2_h_6, z2_h]
  have r3_h_4 : w3.frozen? ⟨w.heap.size, 4, none⟩ = false := by rw [kf3 _ _ (by first | assumption | (simp; done) | (simp; omega) | omega)]; simp [go_sem, q2_h_0, r2_h_0, q2_h_1, r2_h_1, q2_h_2, r2_h_2, q2_h_3, r2_h_3, q2_h_4, r2_h_4, q2_h_5, r2_h_5, q2_h_6, r2_h_6, z2_h]
  have q3_h_5 : w3.cell? ⟨w.heap.size, 5, none⟩ = some (.int .i64 f) := by rw [kc3 _ _ (by first | assumption | (simp; done) | (simp; omega) | omega)]; simp [go_sem, q2_h_0, r2_h_0, q2_h_1, r2_h_1, q2_h_2, r2_h_2, q2_h_3, r2_h_3, q2_h_4, r2_h_4, q2_h_5, r2_h_5, q2_h_6, r2_h_6, z2_h]
  have r3_h_5 : w3.frozen? ⟨w.heap.size, 5, none⟩ = false := by rw [kf3 _ _ (by first | assumption | (simp; done) | (simp; omega) | omega)]; simp [go_sem, q2_h_0, r2_h_0, q2_h_1, r2_h_1, q2_h_2, r2_h_2, q2_h_3, r2_h_3, q2_h_4, r2_h_4, q2_h_5, r2_h_5, q2_h_6, r2_h_6, z2_h]
  have q3_h_6 : w3.cell? ⟨w.heap.size, 6, none⟩ = some (.slice (some ad) l.length cap) := by rw [kc3 _ _ (by first | assumption | (simp; done) | (simp; omega) | omega)]; simp [go_sem, q2_h_0, r2_h_0, q2_h_1, r2_h_1, q2_h_2, r2_h_2, q2_h_3, r2_h_3, q2_h_4, r2_h_4, q2_h_5, r2_h_5, q2_h_6, r2_h_6, z2_h]
  have r3_h_6 : w3.frozen? ⟨w.heap.size, 6, none⟩ = false := by rw [kf3 _ _ (by first | assumption | (simp; done) | (simp; omega) | omega)]; simp [go_sem, q2_h_0, r2_h_0, q2_h_1, r2_h_1, q2_h_2, r2_h_2, q2_h_3, r2_h_3, q2_h_4, r2_h_4, q2_h_5, r2_h_5, q2_h_6, r2_h_6, z2_h]
  have z3_h : w.heap.size < w3.heap.size := kz3 _ (by first | assumption | (simp; done) | (simp; omega) | omega)
  clear kc3 kf3 kz3 ky3 kx3 kv3 ku3 hb3 q2_h_0 r2_h_0 q2_h_1 r2_h_1 q2_h_2 r2_h_2 q2_h_3 r2_h_3 q2_h_4 r2_h_4 q2_h_5 r2_h_5 q2_h_6 r2_h_6 z2_h
  (go_wp2_with fail; refine (isam_impl _ _ (by omega) (by omega) _).mono ?_; rintro e w4 ⟨rfl, hb4⟩; rw [h4]; (have ha4 : Below w.heap.size w w4 := by (repeat (first | with_reducible exact Below.refl _ _ | with_reducible assumption | with_reducible refine balloc ?_ _ | with_reducible refine bdrew ?_ | with_reducible refine bset ?_ ?_ _ | with_reducible exact Nat.le_refl _ | with_reducible refine bsize ?_ | (dsimp only; refine Nat.le_trans ?_ (Nat.le_add_right _ _)) | with_reducible refine Nat.le_trans ?_ (Nat.le_add_right _ _) | (with_reducible refine bstep ?_ (by assumption))))); obtain ⟨kc4, kf4, kz4, ky4, kx4, kv4, ku4⟩ := bcell hb4)
  have q4_h_0 : w4.cell? ⟨w.heap.size, 0, none⟩ = some (.int .i64 a) := by rw [kc4 _ _ (by first | assumption | (simp; done) | (simp; omega) | omega)]; simp [go_sem, q3_h_0, r3_h_0, q3_h_1, r3_h_1, q3_h_2, r3_h_2, q3_h_3, r3_h_3, q3_h_4, r3_h_4, q3_h_5, r3_h_5, q3_h_6, r3_h_6, z3_h]
  have r4_h_0 : w4.frozen? ⟨w.heap.size, 0, none⟩ = false := by rw [kf4 _ _ (by first | assumption | (simp; done) | (simp; omega) | omega)]; simp [go_sem, q3_h_0, r3_h_0, q3_h_1, r3_h_1, q3_h_2, r3_h_2, q3_h_3, r3_h_3, q3_h_4, r3_h_4, q3_h_5, r3_h_5, q3_h_6, r3_h_6, z3_h]
  have q4_h_1 : w4.cell? ⟨w.heap.size, 1, none⟩ = some (.int .i64 b) := by rw [kc4 _ _ (by first | assumption | (simp; done) | (simp; omega) | omega)]; simp [go_sem, q3_h_0, r3_h_0, q3_h_1, r3_h_1, q3_h_2, r3_h_2, q3_h_3, r3_h_3, q3_h_4, r3_h_4, q3_h_5, r3_h_5, q3_h_6, r3_h_6, z3_h]
  have r4_h_1 : w4.frozen? ⟨w.heap.size, 1, none⟩ = false := by rw [kf4 _ _ (by first | assumption | (simp; done) | (simp; omega) | omega)]; simp [go_sem, q3_h_0, r3_h_0, q3_h_1, r3_h_1, q3_h_2, r3_h_2, q3_h_3, r3_h_3, q3_h_4, r3_h_4, q3_h_5, r3_h_5, q3_h_6, r3_h_6, z3_h]
  have q4_h_2 : w4.cell? ⟨w.heap.size, 2, none⟩ = some (.int .i64 c) := by rw [kc4 _ _ (by first | assumption | (simp; done) | (simp; omega) | omega)]; simp [go_sem, q3_h_0, r3_h_0, q3_h_1, r3_h_1, q3_h_2, r3_h_2, q3_h_3, r3_h_3, q3_h_4, r3_h_4, q3_h_5, r3_h_5, q3_h_6, r3_h_6, z3_h]
  have r4_h_2 : w4.frozen? ⟨w.heap.size, 2, none⟩ = false := by rw [kf4 _ _ (by first | assumption | (simp; done) | (simp; omega) | omega)]; simp [go_sem, q3_h_0, r3_h_0, q3_h_1, r3_h_1, q3_h_2, r3_h_2, q3_h_3, r3_h_3, q3_h_4, r3_h_4, q3_h_5, r3_h_5, q3_h_6, r3_h_6, z3_h]
  have q4_h_3 : w4.cell? ⟨w.heap.size, 3, none⟩ = some (.int .i64 d) := by rw [kc4 _ _ (by first | assumption | (simp; done) | (simp; omega) | omega)]; simp [go_sem, q3_h_0, r3_h_0, q3_h_1, r3_h_1, q3_h_2, r3_h_2, q3_h_3, r3_h_3, q3_h_4, r3_h_4, q3_h_5, r3_h_5, q3_h_6, r3_h_6, z3_h]
  have r4_h_3 : w4.frozen? ⟨w.heap.size, 3, none⟩ = false := by rw [kf4 _ _ (by first | assumption | (simp; done) | (simp; omega) | omega)]; simp [go_sem, q3_h_0, r3_h_0, q3_h_1, r3_h_1, q3_h_2, r3_h_2, q3_h_3, r3_h_3, q3_h_4, r3_h_4, q3_h_5, r3_h_5, q3_h_6, r3_h_6, z3_h]
  have q4_h_4 : w4.cell? ⟨w.heap.size, 4, none⟩ = some (.int .i64 e) := by rw [kc4 _ _ (by first | assumption | (simp; done) | (simp; omega) | omega)]; simp [go_sem, q3_h_0, r3_h_0, q3_h_1, r3_h_1, q3_h_2, r3_h_2, q3_h_3, r3_h_3, q3_h_4, r3_h_4, q3_h_5, r3_h_5, q3_h_6, r3_h_6, z3_h]
  have r4_h_4 : w4.frozen? ⟨w.heap.size, 4, none⟩ = false := by rw [kf4 _ _ (by first | assumption | (simp; done) | (simp; omega) | omega)]; simp [go_sem, q3_h_0, r3_h_0, q3_h_1, r3_h_1, q3_h_2, r3_h_2, q3_h_3, r3_h_3, q3_h_4, r3_h_4, q3_h_5, r3_h_5, q3_h_6, r3_h_6, z3_h]
  have q4_h_5 : w4.cell? ⟨w.heap.size, 5, none⟩ = some (.int .i64 f) := by rw [kc4 _ _ (by first | assumption | (simp; done) | (simp; omega) | omega)]; simp [go_sem, q3_h_0, r3_h_0, q3_h_1, r3_h_1, q3_h_2, r3_h_2, q3_h_3, r3_h_3, q3_h_4, r3_h_4, q3_h_5, r3_h_5, q3_h_6, r3_h_6, z3_h]
  have r4_h_5 : w4.frozen? ⟨w.heap.size, 5, none⟩ = false := by rw [kf4 _ _ (by first | assumption | (simp; done) | (simp; omega) | omega)]; simp [go_sem, q3_h_0, r3_h_0, q3_h_1, r3_h_1, q3_h_2, r3_h_2, q3_h_3, r3_h_3, q3_h_4, r3_h_4, q3_h_5, r3_h_5, q3_h_6, r3_h_6, z3_h]
  have q4_h_6 : w4.cell? ⟨w.heap.size, 6, none⟩ = some (.slice (some ad) l.length cap) := by rw [kc4 _ _ (by first | assumption | (simp; done) | (simp; omega) | omega)]; simp [go_sem, q3_h_0, r3_h_0, q3_h_1, r3_h_1, q3_h_2, r3_h_2, q3_h_3, r3_h_3, q3_h_4, r3_h_4, q3_h_5, r3_h_5, q3_h_6, r3_h_6, z3_h]
  have r4_h_6 : w4.frozen? ⟨w.heap.size, 6, none⟩ = false := by rw [kf4 _ _ (by first | assumption | (simp; done) | (simp; omega) | omega)]; simp [go_sem, q3_h_0, r3_h_0, q3_h_1, r3_h_1, q3_h_2, r3_h_2, q3_h_3, r3_h_3, q3_h_4, r3_h_4, q3_h_5, r3_h_5, q3_h_6, r3_h_6, z3_h]
  have z4_h : w.heap.size < w4.heap.size := kz4 _ (by first | assumption | (simp; done) | (simp; omega) | omega)
  clear kc4 kf4 kz4 ky4 kx4 kv4 ku4 hb4 q3_h_0 r3_h_0 q3_h_1 r3_h_1 q3_h_2 r3_h_2 q3_h_3 r3_h_3 q3_h_4 r3_h_4 q3_h_5 r3_h_5 q3_h_6 r3_h_6 z3_h
  go_wp2
  go_ret
  refine ⟨rfl, ?_⟩
  (repeat (first | with_reducible exact Below.refl _ _ | with_reducible assumption | with_reducible refine balloc ?_ _ | with_reducible refine bdrew ?_ | with_reducible refine bset ?_ ?_ _ | with_reducible exact Nat.le_refl _ | with_reducible refine bsize ?_ | (dsimp only; refine Nat.le_trans ?_ (Nat.le_add_right _ _)) | with_reducible refine Nat.le_trans ?_ (Nat.le_add_right _ _) | (with_reducible refine bstep ?_ (by assumption))))

set_option maxHeartbeats 3200000 in
theorem isState_impl_yes (a b c d e f : Int) (ad : Addr) (cap : Nat) (l : List DepotV) (w : World) (hB : StBd a b c d e f) (hL : LiesG 4 fDepot w ad cap l) (h1 : (amB a b) = true) (h2 : (amB c d) = true) (h3 : (decide (c ≤ d)) = true) (h4 : (amB e f) = true) (h5 : l.length ≤ 20) :
    Calls Try.prog 22 #[.agg #[.int .i64 a, .int .i64 b, .int .i64 c, .int .i64 d, .int .i64 e, .int .i64 f, .slice (some ad) l.length cap]] w fun e w' => e = .returned (.bool (depsB l 0 1)) ∧ Below w.heap.size w w' := by
  obtain ⟨⟨b1, b2⟩, ⟨b3, b4⟩, ⟨b5, b6⟩, ⟨b7, b8⟩, ⟨b9, b10⟩, b11, b12⟩ := hB
  have hlc := hL.hlc
  have hcap := hL.hcap
  go_enter Try.func22, Try.ntmps22
  (go_wp2_with fail; refine (isam_impl _ _ (by omega) (by omega) _).mono ?_; rintro e w1 ⟨rfl, hb1⟩; rw [h1]; (have ha1 : Below w.heap.size w w1 := by (repeat (first | with_reducible exact Below.refl _ _ | with_reducible assumption | with_reducible refine balloc ?_ _ | with_reducible refine bdrew ?_ | with_reducible refine bset ?_ ?_ _ | with_reducible exact Nat.le_refl _ | with_reducible refine bsize ?_ | (dsimp only; refine Nat.le_trans ?_ (Nat.le_add_right _ _)) | with_reducible refine Nat.le_trans ?_ (Nat.le_add_right _ _) | (with_reducible refine bstep ?_ (by assumption))))); obtain ⟨kc1, kf1, kz1, ky1, kx1, kv1, ku1⟩ := bcell hb1)
  have q1_h_0 : w1.cell? ⟨w.heap.size, 0, none⟩ = some (.int .i64 a) := by rw [kc1 _ _ (by first | assumption | (simp; done) | (simp; omega) | omega)]; simp [go_sem]
  have r1_h_0 : w1.frozen? ⟨w.heap.size, 0, none⟩ = false := by rw [kf1 _ _ (by first | assumption | (simp; done) | (simp; omega) | omega)]; simp [go_sem]
  have q1_h_1 : w1.cell? ⟨w.heap.size, 1, none⟩ = some (.int .i64 b) := by rw [kc1 _ _ (by first | assumption | (simp; done) | (simp; omega) | omega)]; simp [go_sem]
  have r1_h_1 : w1.frozen? ⟨w.heap.size, 1, none⟩ = false := by rw [kf1 _ _ (by first | assumption | (simp; done) | (simp; omega) | omega)]; simp [go_sem]
  have q1_h_2 : w1.cell? ⟨w.heap.size, 2, none⟩ = some (.int .i64 c) := by rw [kc1 _ _ (by first | assumption | (simp; done) | (simp; omega) | omega)]; simp [go_sem]
  have r1_h_2 : w1.frozen? ⟨w.heap.size, 2, none⟩ = false := by rw [kf1 _ _ (by first | assumption | (simp; done) | (simp; omega) | omega)]; simp [go_sem]
  have q1_h_3 : w1.cell? ⟨w.heap.size, 3, none⟩ = some (.int .i64 d) := by rw [kc1 _ _ (by first | assumption | (simp; done) | (simp; omega) | omega)]; simp [go_sem]
  have r1_h_3 : w1.frozen? ⟨w.heap.size, 3, none⟩ = false := by rw [kf1 _ _ (by first | assumption | (simp; done) | (simp; omega) | omega)]; simp [go_sem]
  have q1_h_4 : w1.cell? ⟨w.heap.size, 4, none⟩ = some (.int .i64 e) := by rw [kc1 _ _ (by first | assumption | (simp; done) | (simp; omega) | omega)]; simp [go_sem]
  have r1_h_4 : w1.frozen? ⟨w.heap.size, 4, none⟩ = false := by rw [kf1 _ _ (by first | assumption | (simp; done) | (simp; omega) | omega)]; simp [go_sem]
  have q1_h_5 : w1.cell? ⟨w.heap.size, 5, none⟩ = some (.int .i64 f) := by rw [kc1 _ _ (by first | assumption | (simp; done) | (simp; omega) | omega)]; simp [go_sem]
  have r1_h_5 : w1.frozen? ⟨w.heap.size, 5, none⟩ = false := by rw [kf1 _ _ (by first | assumption | (simp; done) | (simp; omega) | omega)]; simp [go_sem]
  have q1_h_6 : w1.cell? ⟨w.heap.size, 6, none⟩ = some (.slice (some ad) l.length cap) := by rw [kc1 _ _ (by first | assumption | (simp; done) | (simp; omega) | omega)]; simp [go_sem]
  have r1_h_6 : w1.frozen? ⟨w.heap.size, 6, none⟩ = false := by rw [kf1 _ _ (by first | assumption | (simp; done) | (simp; omega) | omega)]; simp [go_sem]
  have z1_h : w.heap.size < w1.heap.size := kz1 _ (by first | assumption | (simp; done) | (simp; omega) | omega)
  clear kc1 kf1 kz1 ky1 kx1 kv1 ku1 hb1
  (go_wp2_with fail; refine (isam_impl _ _ (by omega) (by omega) _).mono ?_; rintro e w2 ⟨rfl, hb2⟩; rw [h2]; (have ha2 : Below w.heap.size w w2 := by (repeat (first | with_reducible exact Below.refl _ _ | with_reducible assumption | with_reducible refine balloc ?_ _ | with_reducible refine bdrew ?_ | with_reducible refine bset ?_ ?_ _ | with_reducible exact Nat.le_refl _ | with_reducible refine bsize ?_ | (dsimp only; refine Nat.le_trans ?_ (Nat.le_add_right _ _)) | with_reducible refine Nat.le_trans ?_ (Nat.le_add_right _ _) | (with_reducible refine bstep ?_ (by assumption))))); obtain ⟨kc2, kf2, kz2, ky2, kx2, kv2, ku2⟩ := bcell hb2)
  have q2_h_0 : w2.cell? ⟨w.heap.size, 0, none⟩ = some (.int .i64 a) := by rw [kc2 _ _ (by first | assumption | (simp; done) | (simp; omega) | omega)]; simp [go_sem, q1_h_0, r1_h_0, q1_h_1, r1_h_1, q1_h_2, r1_h_2, q1_h_3, r1_h_3, q1_h_4, r1_h_4, q1_h_5, r1_h_5, q1_h_6, r1_h_6, z1_h]
  have r2_h_0 : w2.frozen? ⟨w.heap.size, 0, none⟩ = false := by rw [kf2 _ _ (by first | assumption | (simp; done) | (simp; omega) | omega)]; simp [go_sem, q1_h_0, r1_h_0, q1_h_1, r1_h_1, q1_h_2, r1_h_2, q1_h_3, r1_h_3, q1_h_4, r1_h_4, q1_h_5, r1_h_5, q1_h_6, r1_h_6, z1_h]
  have q2_h_1 : w2.cell? ⟨w.heap.size, 1, none⟩ = some (.int .i64 b) := by rw [kc2 _ _ (by first | assumption | (simp; done) | (simp; omega) | omega)]; simp [go_sem, q1_h_0, r1_h_0, q1_h_1, r1_h_1, q1_h_2, r1_h_2, q1_h_3, r1_h_3, q1_h_4, r1_h_4, q1_h_5, r1_h_5, q1_h_6, r1_h_6, z1_h]
  have r2_h_1 : w2.frozen? ⟨w.heap.size, 1, none⟩ = false := by rw [kf2 _ _ (by first | assumption | (simp; done) | (simp; omega) | omega)]; simp [go_sem, q1_h_0, r1_h_0, q1_h_1, r1_h_1, q1_h_2, r1_h_2, q1_h_3, r1_h_3, q1_h_4, r1_h_4, q1_h_5, r1_h_5, q1_h_6, r1_h_6, z1_h]
  have q2_h_2 : w2.cell? ⟨w.heap.size, 2, none⟩ = some (.int .i64 c) := by rw [kc2 _ _ (by first | assumption | (simp; done) | (simp; omega) | omega)]; simp [go_sem, q1_h_0, r1_h_0, q1_h_1, r1_h_1, q1_h_2, r1_h_2, q1_h_3, r1_h_3, q1_h_4, r1_h_4, q1_h_5, r1_h_5, q1_h_6, r1_h_6, z1_h]
  have r2_h_2 : w2.frozen? ⟨w.heap.size, 2, none⟩ = false := by rw [kf2 _ _ (by first | assumption | (simp; done) | (simp; omega) | omega)]; simp [go_sem, q1_h_0, r1_h_0, q1_h_1, r1_h_1, q1_h_2, r1_h_2, q1_h_3, r1_h_3, q1_h_4, r1_h_4, q1_h_5, r1_h_5, q1_h_6, r1_h_6, z1_h]
  have q2_h_3 : w2.cell? ⟨w.heap.size, 3, none⟩ = some (.int .i64 d) := by rw [kc2 _ _ (by first | assumption | (simp; done) | (simp; omega) | omega)]; simp [go_sem, q1_h_0, r1_h_0, q1_h_1, r1_h_1, q1_h_2, r1_h_2, q1_h_3, r1_h_3, q1_h_4, r1_h_4, q1_h_5, r1_h_5, q1_h_6, r1_h_6, z1_h]
  have r2_h_3 : w2.frozen? ⟨w.heap.size, 3, none⟩ = false := by rw [kf2 _ _ (by first | assumption | (simp; done) | (simp; omega) | omega)]; simp [go_sem, q1_h_0, r1_h_0, q1_h_1, r1_h_1, q1_h_2, r1_h_2, q1_h_3, r1_h_3, q1_h_4, r1_h_4, q1_h_5, r1_h_5, q1_h_6, r1_h_6, z1_h]
  have q2_h_4 : w2.cell? ⟨w.heap.size, 4, none⟩ = some (.int .i64 e) := by rw [kc2 _ _ (by first | assumption | (simp; done) | (simp; omega) | omega)]; simp [go_sem, q1_h_0, r1_h_0, q1_h_1, r1_h_1, q1_h_2, r1_h_2, q1_h_3, r1_h_3, q1_h_4, r1_h_4, q1_h_5, r1_h_5, q1_h_6, r1_h_6, z1_h]
  have r2_h_4 : w2.frozen? ⟨w.heap.size, 4, none⟩ = false := by rw [kf2 _ _ (by first | assumption | (simp; done) | (simp; omega) | omega)]; simp [go_sem, q1_h_0, r1_h_0, q1_h_1, r1_h_1, q1_h_2, r1_h_2, q1_h_3, r1_h_3, q1_h_4, r1_h_4, q1_h_5, r1_h_5, q1_h_6, r1_h_6, z1_h]
  have q2_h_5 : w2.cell? ⟨w.heap.size, 5, none⟩ = some (.int .i64 f) := by rw [kc2 _ _ (by first | assumption | (simp; done) | (simp; omega) | omega)]; simp [go_sem, q1_h_0, r1_h_0, q1_h_1, r1_h_1, q1_h_2, r1_h_2, q1_h_3, r1_h_3, q1_h_4, r1_h_4, q1_h_5, r1_h_5, q1_h_6, r1_h_6, z1_h]
  have r2_h_5 : w2.frozen? ⟨w.heap.size, 5, none⟩ = false := by rw [kf2 _ _ (by first | assumption | (simp; done) | (simp; omega) | omega)]; simp [go_sem, q1_h_0, r1_h_0, q1_h_1, r1_h_1, q1_h_2, r1_h_2, q1_h_3, r1_h_3, q1_h_4, r1_h_4, q1_h_5, r1_h_5, q1_h_6, r1_h_6, z1_h]
  have q2_h_6 : w2.cell? ⟨w.heap.size, 6, none⟩ = some (.slice (some ad) l.length cap) := by rw [kc2 _ _ (by first | assumption | (simp; done) | (simp; omega) | omega)]; simp [go_sem, q1_h_0, r1_h_0, q1_h_1, r1_h_1, q1_h_2, r1_h_2, q1_h_3, r1_h_3, q1_h_4, r1_h_4, q1_h_5, r1_h_5, q1_h_6, r1_h_6, z1_h]
  have r2_h_6 : w2.frozen? ⟨w.heap.size, 6, none⟩ = false := by rw [kf2 _ _ (by first | assumption | (simp; done) | (simp; omega) | omega)]; simp [go_sem, q1_h_0, r1_h_0, q1_h_1, r1_h_1, q1_h_2, r1_h_2, q1_h_3, r1_h_3, q1_h_4, r1_h_4, q1_h_5, r1_h_5, q1_h_6, r1_h_6, z1_h]
  have z2_h : w.heap.size < w2.heap.size := kz2 _ (by first | assumption | (simp; done) | (simp; omega) | omega)
  clear kc2 kf2 kz2 ky2 kx2 kv2 ku2 hb2 q1_h_0 r1_h_0 q1_h_1 r1_h_1 q1_h_2 r1_h_2 q1_h_3 r1_h_3 q1_h_4 r1_h_4 q1_h_5 r1_h_5 q1_h_6 r1_h_6 z1_h
  (go_wp2_with fail; refine (fits_impl _ _ _).mono ?_; rintro e w3 ⟨rfl, hb3⟩; rw [h3]; (have ha3 : Below w.heap.size w w3 := by (repeat (first | with_reducible exact Below.refl _ _ | with_reducible assumption | with_reducible refine balloc ?_ _ | with_reducible refine bdrew ?_ | with_reducible refine bset ?_ ?_ _ | with_reducible exact Nat.le_refl _ | with_reducible refine bsize ?_ | (dsimp only; refine Nat.le_trans ?_ (Nat.le_add_right _ _)) | with_reducible refine Nat.le_trans ?_ (Nat.le_add_right _ _) | (with_reducible refine bstep ?_ (by assumption))))); obtain ⟨kc3, kf3, kz3, ky3, kx3, kv3, ku3⟩ := bcell hb3)
  have q3_h_0 : w3.cell? ⟨w.heap.size, 0, none⟩ = some (.int .i64 a) := by rw [kc3 _ _ (by first | assumption | (simp; done) | (simp; omega) | omega)]; simp [go_sem, q2_h_0, r2_h_0, q2_h_1, r2_h_1, q2_h_2, r2_h_2, q2_h_3, r2_h_3, q2_h_4, r2_h_4, q2_h_5, r2_h_5, q2_h_6, r2_h_6, z2_h]
  have r3_h_0 : w3.frozen? ⟨w.heap.size, 0, none⟩ = false := by rw [kf3 _ _ (by first | assumption | (simp; done) | (simp; omega) | omega)]; simp [go_sem, q2_h_0, r2_h_0, q2_h_1, r2_h_1, q2_h_2, r2_h_2, q2_h_3, r2_h_3, q2_h_4, r2_h_4, q2_h_5, r2_h_5, q2_h_6, r2_h_6, z2_h]
  have q3_h_1 : w3.cell? ⟨w.heap.size, 1, none⟩ = some (.int .i64 b) := by rw [kc3 _ _ (by first | assumption | (simp; done) | (simp; omega) | omega)]; simp [go_sem, q2_h_0, r2_h_0, q2_h_1, r2_h_1, q2_h_2, r2_h_2, q2_h_3, r2_h_3, q2_h_4, r2_h_4, q2_h_5, r2_h_5, q2_h_6, r2_h_6, z2_h]
  have r3_h_1 : w3.frozen? ⟨w.heap.size, 1, none⟩ = false := by rw [kf3 _ _ (by first | assumption | (simp; done) | (simp; omega) | omega)]; simp [go_sem, q2_h_0, r2_h_0, q2_h_1, r2_h_1, q2_h_2, r2_h_2, q2_h_3, r2_h_3, q2_h_4, r2_h_4, q2_h_5, r2_h_5, q2_h_6, r2_h_6, z2_h]
  have q3_h_2 : w3.cell? ⟨w.heap.size, 2, none⟩ = some (.int .i64 c) := by rw [kc3 _ _ (by first | assumption | (simp; done) | (simp; omega) | omega)]; simp [go_sem, q2_h_0, r2_h_0, q2_h_1, r2_h_1, q2_h_2, r2_h_2, q2_h_3, r2_h_3, q2_h_4, r2_h_4, q2_h_5, r2_h_5, q2_h_6, r2_h_6, z2_h]
  have r3_h_2 : w3.frozen? ⟨w.heap.size, 2, none⟩ = false := by rw [kf3 _ _ (by first | assumption | (simp; done) | (simp; omega) | omega)]; simp [go_sem, q2_h_0, r2_h_0, q2_h_1, r2_h_1, q2_h_2, r2_h_2, q2_h_3, r2_h_3, q2_h_4, r2_h_4, q2_h_5, r2_h_5, q2_h_6, r2_h_6, z2_h]
  have q3_h_3 : w3.cell? ⟨w.heap.size, 3, none⟩ = some (.int .i64 d) := by rw [kc3 _ _ (by first | assumption | (simp; done) | (simp; omega) | omega)]; simp [go_sem, q2_h_0, r2_h_0, q2_h_1, r2_h_1, q2_h_2, r2_h_2, q2_h_3, r2_h_3, q2_h_4, r2_h_4, q2_h_5, r2_h_5, q2_h_6, r2_h_6, z2_h]
  have r3_h_3 : w3.frozen? ⟨w.heap.size, 3, none⟩ = false := by rw [kf3 _ _ (by first | assumption | (simp; done) | (simp; omega) | omega)]; simp [go_sem, q2_h_0, r2_h_0, q2_h_1, r2_h_1, q2_h_2, r2_h_2, q2_h_3, r2_h_3, q2_h_4, r2_h_4, q2_h_5, r2_h_5, q2_h_6, r2_h_6, z2_h]
  have q3_h_4 : w3.cell? ⟨w.heap.size, 4, none⟩ = some (.int .i64 e) := by rw [kc3 _ _ (by first | assumption | (simp; done) | (simp; omega) | omega)]; simp [go_sem, q2_h_0, r2_h_0, q2_h_1, r2_h_1, q2_h_2, r2_h_2, q2_h_3, r2_h_3, q2_h_4, r2_h_4, q2_h_5, r2_h_5, q2_h_6, r2_h_6, z2_h]
  have r3_h_4 : w3.frozen? ⟨w.heap.size, 4, none⟩ = false := by rw [kf3 _ _ (by first | assumption | (simp; done) | (simp; omega) | omega)]; simp [go_sem, q2_h_0, r2_h_0, q2_h_1, r2_h_1, q2_h_2, r2_h_2, q2_h_3, r2_h_3, q2_h_4, r2_h_4, q2_h_5, r2_h_5, q2_h_6, r2_h_6, z2_h]
  have q3_h_5 : w3.cell? ⟨w.heap.size, 5, none⟩ = some (.int .i64 f) := by rw [kc3 _ _ (by first | assumption | (simp; done) | (simp; omega) | omega)]; simp [go_sem, q2_h_0, r2_h_0, q2_h_1, r2_h_1, q2_h_2, r2_h_2, q2_h_3, r2_h_3, q2_h_4, r2_h_4, q2_h_5, r2_h_5, q2_h_6, r2_h_6, z2_h]
  have r3_h_5 : w3.frozen? ⟨w.heap.size, 5, none⟩ = false := by rw [kf3 _ _ (by first | assumption | (simp; done) | (simp; omega) | omega)]; simp [go_sem, q2_h_0, r2_h_0, q2_h_1, r2_h_1, q2_h_2, r2_h_2, q2_h_3, r2_h_3, q2_h_4, r2_h_4, q2_h_5, r2_h_5, q2_h_6, r2_h_6, z2_h]
  have q3_h_6 : w3.cell? ⟨w.heap.size, 6, none⟩ = some (.slice (some ad) l.length cap) := by rw [kc3 _ _ (by first | assumption | (simp; done) | (simp; omega) | omega)]; simp [go_sem, q2_h_0, r2_h_0, q2_h_1, r2_h_1, q2_h_2, r2_h_2, q2_h_3, r2_h_3, q2_h_4, r2_h_4, q2_h_5, r2_h_5, q2_h_6, r2_h_6, z2_h]
  have r3_h_6 : w3.frozen? ⟨w.heap.size, 6, none⟩ = false := by rw [kf3 _ _ (by first | assumption | (simp; done) | (simp; omega) | omega)]; simp [go_sem, q2_h_0, r2_h_0, q2_h_1, r2_h_1, q2_h_2, r2_h_2, q2_h_3, r2_h_3, q2_h_4, r2_h_4, q2_h_5, r2_h_5, q2_h_6, r2_h_6, z2_h]
  have z3_h : w.heap.size < w3.heap.size := kz3 _ (by first | assumption | (simp; done) | (simp; omega) | omega)
  clear kc3 kf3 kz3 ky3 kx3 kv3 ku3 hb3 q2_h_0 r2_h_0 q2_h_1 r2_h_1 q2_h_2 r2_h_2 q2_h_3 r2_h_3 q2_h_4 r2_h_4 q2_h_5 r2_h_5 q2_h_6 r2_h_6 z2_h
  (go_wp2_with fail; refine (isam_impl _ _ (by omega) (by omega) _).mono ?_; rintro e w4 ⟨rfl, hb4⟩; rw [h4]; (have ha4 : Below w.heap.size w w4 := by (repeat (first | with_reducible exact Below.refl _ _ | with_reducible assumption | with_reducible refine balloc ?_ _ | with_reducible refine bdrew ?_ | with_reducible refine bset ?_ ?_ _ | with_reducible exact Nat.le_refl _ | with_reducible refine bsize ?_ | (dsimp only; refine Nat.le_trans ?_ (Nat.le_add_right _ _)) | with_reducible refine Nat.le_trans ?_ (Nat.le_add_right _ _) | (with_reducible refine bstep ?_ (by assumption))))); obtain ⟨kc4, kf4, kz4, ky4, kx4, kv4, ku4⟩ := bcell hb4)
  have q4_h_0 : w4.cell? ⟨w.heap.size, 0, none⟩ = some (.int .i64 a) := by rw [kc4 _ _ (by first | assumption | (simp; done) | (simp; omega) | omega)]; simp [go_sem, q3_h_0, r3_h_0, q3_h_1, r3_h_1, q3_h_2, r3_h_2, q3_h_3, r3_h_3, q3_h_4, r3_h_4, q3_h_5, r3_h_5, q3_h_6, r3_h_6, z3_h]
  have r4_h_0 : w4.frozen? ⟨w.heap.size, 0, none⟩ = false := by rw [kf4 _ _ (by first | assumption | (simp; done) | (simp; omega) | omega)]; simp [go_sem, q3_h_0, r3_h_0, q3_h_1, r3_h_1, q3_h_2, r3_h_2, q3_h_3, r3_h_3, q3_h_4, r3_h_4, q3_h_5, r3_h_5, q3_h_6, r3_h_6, z3_h]
  have q4_h_1 : w4.cell? ⟨w.heap.size, 1, none⟩ = some (.int .i64 b) := by rw [kc4 _ _ (by first | assumption | (simp; done) | (simp; omega) | omega)]; simp [go_sem, q3_h_0, r3_h_0, q3_h_1, r3_h_1, q3_h_2, r3_h_2, q3_h_3, r3_h_3, q3_h_4, r3_h_4, q3_h_5, r3_h_5, q3_h_6, r3_h_6, z3_h]
  have r4_h_1 : w4.frozen? ⟨w.heap.size, 1, none⟩ = false := by rw [kf4 _ _ (by first | assumption | (simp; done) | (simp; omega) | omega)]; simp [go_sem, q3_h_0, r3_h_0, q3_h_1, r3_h_1, q3_h_2, r3_h_2, q3_h_3, r3_h_3, q3_h_4, r3_h_4, q3_h_5, r3_h_5, q3_h_6, r3_h_6, z3_h]
  have q4_h_2 : w4.cell? ⟨w.heap.size, 2, none⟩ = some (.int .i64 c) := by rw [kc4 _ _ (by first | assumption | (simp; done) | (simp; omega) | omega)]; simp [go_sem, q3_h_0, r3_h_0, q3_h_1, r3_h_1, q3_h_2, r3_h_2, q3_h_3, r3_h_3, q3_h_4, r3_h_4, q3_h_5, r3_h_5, q3_h_6, r3_h_6, z3_h]
  have r4_h_2 : w4.frozen? ⟨w.heap.size, 2, none⟩ = false := by rw [kf4 _ _ (by first | assumption | (simp; done) | (simp; omega) | omega)]; simp [go_sem, q3_h_0, r3_h_0, q3_h_1, r3_h_1, q3_h_2, r3_h_2, q3_h_3, r3_h_3, q3_h_4, r3_h_4, q3_h_5, r3_h_5, q3_h_6, r3_h_6, z3_h]
  have q4_h_3 : w4.cell? ⟨w.heap.size, 3, none⟩ = some (.int .i64 d) := by rw [kc4 _ _ (by first | assumption | (simp; done) | (simp; omega) | omega)]; simp [go_sem, q3_h_0, r3_h_0, q3_h_1, r3_h_1, q3_h_2, r3_h_2, q3_h_3, r3_h_3, q3_h_4, r3_h_4, q3_h_5, r3_h_5, q3_h_6, r3_h_6, z3_h]
  have r4_h_3 : w4.frozen? ⟨w.heap.size, 3, none⟩ = false := by rw [kf4 _ _ (by first | assumption | (simp; done) | (simp; omega) | omega)]; simp [go_sem, q3_h_0, r3_h_0, q3_h_1, r3_h_1, q3_h_2, r3_h_2, q3_h_3, r3_h_3, q3_h_4, r3_h_4, q3_h_5, r3_h_5, q3_h_6, r3_h_6, z3_h]
  have q4_h_4 : w4.cell? ⟨w.heap.size, 4, none⟩ = some (.int .i64 e) := by rw [kc4 _ _ (by first | assumption | (simp; done) | (simp; omega) | omega)]; simp [go_sem, q3_h_0, r3_h_0, q3_h_1, r3_h_1, q3_h_2, r3_h_2, q3_h_3, r3_h_3, q3_h_4, r3_h_4, q3_h_5, r3_h_5, q3_h_6, r3_h_6, z3_h]
  have r4_h_4 : w4.frozen? ⟨w.heap.size, 4, none⟩ = false := by rw [kf4 _ _ (by first | assumption | (simp; done) | (simp; omega) | omega)]; simp [go_sem, q3_h_0, r3_h_0, q3_h_1, r3_h_1, q3_h_2, r3_h_2, q3_h_3, r3_h_3, q3_h_4, r3_h_4, q3_h_5, r3_h_5, q3_h_6, r3_h_6, z3_h]
  have q4_h_5 : w4.cell? ⟨w.heap.size, 5, none⟩ = some (.int .i64 f) := by rw [kc4 _ _ (by first | assumption | (simp; done) | (simp; omega) | omega)]; simp [go_sem, q3_h_0, r3_h_0, q3_h_1, r3_h_1, q3_h_2, r3_h_2, q3_h_3, r3_h_3, q3_h_4, r3_h_4, q3_h_5, r3_h_5, q3_h_6, r3_h_6, z3_h]
  have r4_h_5 : w4.frozen? ⟨w.heap.size, 5, none⟩ = false := by rw [kf4 _ _ (by first | assumption | (simp; done) | (simp; omega) | omega)]; simp [go_sem, q3_h_0, r3_h_0, q3_h_1, r3_h_1, q3_h_2, r3_h_2, q3_h_3, r3_h_3, q3_h_4, r3_h_4, q3_h_5, r3_h_5, q3_h_6, r3_h_6, z3_h]
  have q4_h_6 : w4.cell? ⟨w.heap.size, 6, none⟩ = some (.slice (some ad) l.length cap) := by rw [kc4 _ _ (by first | assumption | (simp; done) | (simp; omega) | omega)]; simp [go_sem, q3_h_0, r3_h_0, q3_h_1, r3_h_1, q3_h_2, r3_h_2, q3_h_3, r3_h_3, q3_h_4, r3_h_4, q3_h_5, r3_h_5, q3_h_6, r3_h_6, z3_h]
  have r4_h_6 : w4.frozen? ⟨w.heap.size, 6, none⟩ = false := by rw [kf4 _ _ (by first | assumption | (simp; done) | (simp; omega) | omega)]; simp [go_sem, q3_h_0, r3_h_0, q3_h_1, r3_h_1, q3_h_2, r3_h_2, q3_h_3, r3_h_3, q3_h_4, r3_h_4, q3_h_5, r3_h_5, q3_h_6, r3_h_6, z3_h]
  have z4_h : w.heap.size < w4.heap.size := kz4 _ (by first | assumption | (simp; done) | (simp; omega) | omega)
  clear kc4 kf4 kz4 ky4 kx4 kv4 ku4 hb4 q3_h_0 r3_h_0 q3_h_1 r3_h_1 q3_h_2 r3_h_2 q3_h_3 r3_h_3 q3_h_4 r3_h_4 q3_h_5 r3_h_5 q3_h_6 r3_h_6 z3_h
  go_wp2_with (go_at_call 63; refine (whole_is_impl _ _).mono ?_; rintro en w5 ⟨rfl, rfl⟩)
  have ha0 : Below w.heap.size w w4 := ha4
  go_loopw [40] (fun i wr => ∃ k : Nat, k ≤ l.length ∧ i = .int .i64 k ∧ ∃ x y : Int, Hid (amB x y = true) ∧ Hid (depsB (l.drop k) x y = depsB l 0 1) ∧ wr.cell? ⟨w4.heap.size + 1, 0, none⟩ = some (.int .i64 x) ∧ wr.cell? ⟨w4.heap.size + 1, 1, none⟩ = some (.int .i64 y) ∧
      wr.frozen? ⟨w4.heap.size + 1, 0, none⟩ = false ∧ wr.frozen? ⟨w4.heap.size + 1, 1, none⟩ = false ∧ w4.heap.size + 1 < wr.heap.size ∧ Below w.heap.size w wr) (fun i _ => l.length - (intOf i).toNat)
  case atStart =>
    refine ⟨0, Nat.zero_le _, rfl, 0, 1, am_whole 0 (by omega) (by omega), rfl, by simp [go_sem], by simp [go_sem], by simp [go_sem], by simp [go_sem], by simp, ?_⟩
    (repeat (first | with_reducible exact Below.refl _ _ | with_reducible assumption | with_reducible refine balloc ?_ _ | with_reducible refine bdrew ?_ | with_reducible refine bset ?_ ?_ _ | with_reducible exact Nat.le_refl _ | with_reducible refine bsize ?_ | (dsimp only; refine Nat.le_trans ?_ (Nat.le_add_right _ _)) | with_reducible refine Nat.le_trans ?_ (Nat.le_add_right _ _) | (with_reducible refine bstep ?_ (by assumption))))
  case round =>
    obtain ⟨k, hk, rfl, x, y, hxy, hfold, s1, s2, s3, s4, hs, hbel⟩ := hrel
    have lb : w.heap.size ≤ w4.heap.size + 1 := by have := ha0.size; omega
    by_cases hlt : k < l.length
    · obtain ⟨p, hp⟩ : ∃ p, l[k]? = some p := ⟨_, List.getElem?_eq_getElem hlt⟩
      have hc := (liesG_below hL hbel).hcell k p hp
      have hdrop := drop_cons l k p hp
      have hbd := hL.hbd p (List.mem_of_getElem? hp)
      obtain ⟨pa, pb, pn, pd⟩ := p
      have e0 := hc 0 pa rfl
      rw [Nat.add_zero] at e0
      have e1 : wr.cell? ⟨(ad.add (k * 4)).block, (ad.add (k * 4)).off + 1, none⟩ = some (.int .i64 pb) := by
        have h := hc 1 pb rfl
        rw [← Deep.add_add] at h
        exact h
      have e2 : wr.cell? ⟨(ad.add (k * 4)).block, (ad.add (k * 4)).off + 2, none⟩ = some (.int .i64 pn) := by
        have h := hc 2 pn rfl
        rw [← Deep.add_add] at h
        exact h
      have e3 : wr.cell? ⟨(ad.add (k * 4)).block, (ad.add (k * 4)).off + 3, none⟩ = some (.int .i64 pd) := by
        have h := hc 3 pd rfl
        rw [← Deep.add_add] at h
        exact h
      have ba : B64 pa := hbd pa (by simp [fDepot])
      have bb : B64 pb := hbd pb (by simp [fDepot])
      have bn : B64 pn := hbd pn (by simp [fDepot])
      have bdd : B64 pd := hbd pd (by simp [fDepot])
      clear hc hbd
      have hstep : Hid ((depB x y ⟨pa, pb, pn, pd⟩ && depsB (l.drop (k + 1)) pa pb) = depsB l 0 1) := by
        have := hfold.out
        rw [hdrop, depsB_cons] at this
        exact this
      clear hdrop hfold
      cases hG : amB pa pb
      · have hnone : Hid (depsB l 0 1 = false) := by
          have h := hstep.out
          show depsB l 0 1 = false
          rw [← h]
          simp [depB, hG]
        have hcon := fun W => cmp_impl_no x y pa pb hxy.out ba bb hG W
        have HC := Lib.hid hcon
        clear hcon hstep hG
        go_wp2_with fail
        refine (HC.out _).mono ?_
        rintro en w6 ⟨rfl, hb6⟩
        have ha6 : Below w.heap.size w w6 := by (repeat (first | with_reducible exact Below.refl _ _ | with_reducible assumption | with_reducible refine balloc ?_ _ | with_reducible refine bdrew ?_ | with_reducible refine bset ?_ ?_ _ | with_reducible exact Nat.le_refl _ | with_reducible refine bsize ?_ | (dsimp only; refine Nat.le_trans ?_ (Nat.le_add_right _ _)) | with_reducible refine Nat.le_trans ?_ (Nat.le_add_right _ _) | (with_reducible refine bstep ?_ (by assumption))))
        go_wp2
        rw [hnone.out]
        go_ret
        refine ⟨rfl, ?_⟩
        (repeat (first | with_reducible exact Below.refl _ _ | with_reducible assumption | with_reducible refine balloc ?_ _ | with_reducible refine bdrew ?_ | with_reducible refine bset ?_ ?_ _ | with_reducible exact Nat.le_refl _ | with_reducible refine bsize ?_ | (dsimp only; refine Nat.le_trans ?_ (Nat.le_add_right _ _)) | with_reducible refine Nat.le_trans ?_ (Nat.le_add_right _ _) | (with_reducible refine bstep ?_ (by assumption))))
      · have hcon := fun W => cmp_impl x y pa pb hxy.out hG W
        have HC := Lib.hid hcon
        clear hcon
        by_cases hlt2 : x * pb < pa * y
        · have hsg : sgI (x * pb - pa * y) = -1 := by unfold sgI; rw [if_neg (by omega), if_pos (by omega)]
          have HSG := Lib.hid hsg
          clear hsg
          cases hF : smB pn pd
          · have hnone : Hid (depsB l 0 1 = false) := by
              have h := hstep.out
              show depsB l 0 1 = false
              rw [← h]
              simp [depB, hF]
            have hcf := fun W => isSome_impl pn pd bn bdd W
            rw [hF] at hcf
            have HF := Lib.hid hcf
            clear hcf hstep hG hF hlt2
            go_wp2_with fail
            refine (HC.out _).mono ?_
            rintro en w6 ⟨rfl, hb6⟩
            rw [HSG.out]
            have ha6 : Below w.heap.size w w6 := by (repeat (first | with_reducible exact Below.refl _ _ | with_reducible assumption | with_reducible refine balloc ?_ _ | with_reducible refine bdrew ?_ | with_reducible refine bset ?_ ?_ _ | with_reducible exact Nat.le_refl _ | with_reducible refine bsize ?_ | (dsimp only; refine Nat.le_trans ?_ (Nat.le_add_right _ _)) | with_reducible refine Nat.le_trans ?_ (Nat.le_add_right _ _) | (with_reducible refine bstep ?_ (by assumption))))
            obtain ⟨kc6, kf6, kz6, ky6, kx6, kv6, ku6⟩ := bcell hb6
            have q6_wr_0 : w6.cell? ⟨wr.heap.size, 0, none⟩ = some (.int .i64 pa) := by rw [kc6 _ _ (by first | assumption | (simp; done) | (simp; omega) | omega)]; simp [go_sem]
            have r6_wr_0 : w6.frozen? ⟨wr.heap.size, 0, none⟩ = false := by rw [kf6 _ _ (by first | assumption | (simp; done) | (simp; omega) | omega)]; simp [go_sem]
            have q6_wr_1 : w6.cell? ⟨wr.heap.size, 1, none⟩ = some (.int .i64 pb) := by rw [kc6 _ _ (by first | assumption | (simp; done) | (simp; omega) | omega)]; simp [go_sem]
            have r6_wr_1 : w6.frozen? ⟨wr.heap.size, 1, none⟩ = false := by rw [kf6 _ _ (by first | assumption | (simp; done) | (simp; omega) | omega)]; simp [go_sem]
            have q6_wr_2 : w6.cell? ⟨wr.heap.size, 2, none⟩ = some (.int .i64 pn) := by rw [kc6 _ _ (by first | assumption | (simp; done) | (simp; omega) | omega)]; simp [go_sem]
            have r6_wr_2 : w6.frozen? ⟨wr.heap.size, 2, none⟩ = false := by rw [kf6 _ _ (by first | assumption | (simp; done) | (simp; omega) | omega)]; simp [go_sem]
            have q6_wr_3 : w6.cell? ⟨wr.heap.size, 3, none⟩ = some (.int .i64 pd) := by rw [kc6 _ _ (by first | assumption | (simp; done) | (simp; omega) | omega)]; simp [go_sem]
            have r6_wr_3 : w6.frozen? ⟨wr.heap.size, 3, none⟩ = false := by rw [kf6 _ _ (by first | assumption | (simp; done) | (simp; omega) | omega)]; simp [go_sem]
            have z6_wr : wr.heap.size < w6.heap.size := kz6 _ (by first | assumption | (simp; done) | (simp; omega) | omega)
            clear kc6 kf6 kz6 ky6 kx6 kv6 ku6 hb6
            go_wp2_with fail
            refine (HF.out _).mono ?_
            rintro en w7 ⟨rfl, hb7⟩
            have ha7 : Below w.heap.size w w7 := by (repeat (first | with_reducible exact Below.refl _ _ | with_reducible assumption | with_reducible refine balloc ?_ _ | with_reducible refine bdrew ?_ | with_reducible refine bset ?_ ?_ _ | with_reducible exact Nat.le_refl _ | with_reducible refine bsize ?_ | (dsimp only; refine Nat.le_trans ?_ (Nat.le_add_right _ _)) | with_reducible refine Nat.le_trans ?_ (Nat.le_add_right _ _) | (with_reducible refine bstep ?_ (by assumption))))
            go_wp2
            rw [hnone.out]
            go_ret
            refine ⟨rfl, ?_⟩
            (repeat (first | with_reducible exact Below.refl _ _ | with_reducible assumption | with_reducible refine balloc ?_ _ | with_reducible refine bdrew ?_ | with_reducible refine bset ?_ ?_ _ | with_reducible exact Nat.le_refl _ | with_reducible refine bsize ?_ | (dsimp only; refine Nat.le_trans ?_ (Nat.le_add_right _ _)) | with_reducible refine Nat.le_trans ?_ (Nat.le_add_right _ _) | (with_reducible refine bstep ?_ (by assumption))))
          · have hnext : Hid (depsB (l.drop (k + 1)) pa pb = depsB l 0 1) := by
              have h := hstep.out
              show depsB (l.drop (k + 1)) pa pb = depsB l 0 1
              rw [← h]
              simp [depB, hF, hG, hlt2]
            have hGG := Lib.hid hG
            have hcf := fun W => isSome_impl pn pd bn bdd W
            rw [hF] at hcf
            have HF := Lib.hid hcf
            clear hcf hstep hG hF hlt2
            go_wp2_with fail
            refine (HC.out _).mono ?_
            rintro en w6 ⟨rfl, hb6⟩
            rw [HSG.out]
            have ha6 : Below w.heap.size w w6 := by (repeat (first | with_reducible exact Below.refl _ _ | with_reducible assumption | with_reducible refine balloc ?_ _ | with_reducible refine bdrew ?_ | with_reducible refine bset ?_ ?_ _ | with_reducible exact Nat.le_refl _ | with_reducible refine bsize ?_ | (dsimp only; refine Nat.le_trans ?_ (Nat.le_add_right _ _)) | with_reducible refine Nat.le_trans ?_ (Nat.le_add_right _ _) | (with_reducible refine bstep ?_ (by assumption))))
            obtain ⟨kc6, kf6, kz6, ky6, kx6, kv6, ku6⟩ := bcell hb6
            have q6_wr_0 : w6.cell? ⟨wr.heap.size, 0, none⟩ = some (.int .i64 pa) := by rw [kc6 _ _ (by first | assumption | (simp; done) | (simp; omega) | omega)]; simp [go_sem, s1, s2, s3, s4, hs]
            have r6_wr_0 : w6.frozen? ⟨wr.heap.size, 0, none⟩ = false := by rw [kf6 _ _ (by first | assumption | (simp; done) | (simp; omega) | omega)]; simp [go_sem, s1, s2, s3, s4, hs]
            have q6_wr_1 : w6.cell? ⟨wr.heap.size, 1, none⟩ = some (.int .i64 pb) := by rw [kc6 _ _ (by first | assumption | (simp; done) | (simp; omega) | omega)]; simp [go_sem, s1, s2, s3, s4, hs]
            have r6_wr_1 : w6.frozen? ⟨wr.heap.size, 1, none⟩ = false := by rw [kf6 _ _ (by first | assumption | (simp; done) | (simp; omega) | omega)]; simp [go_sem, s1, s2, s3, s4, hs]
            have q6_wr_2 : w6.cell? ⟨wr.heap.size, 2, none⟩ = some (.int .i64 pn) := by rw [kc6 _ _ (by first | assumption | (simp; done) | (simp; omega) | omega)]; simp [go_sem, s1, s2, s3, s4, hs]
            have r6_wr_2 : w6.frozen? ⟨wr.heap.size, 2, none⟩ = false := by rw [kf6 _ _ (by first | assumption | (simp; done) | (simp; omega) | omega)]; simp [go_sem, s1, s2, s3, s4, hs]
            have q6_wr_3 : w6.cell? ⟨wr.heap.size, 3, none⟩ = some (.int .i64 pd) := by rw [kc6 _ _ (by first | assumption | (simp; done) | (simp; omega) | omega)]; simp [go_sem, s1, s2, s3, s4, hs]
            have r6_wr_3 : w6.frozen? ⟨wr.heap.size, 3, none⟩ = false := by rw [kf6 _ _ (by first | assumption | (simp; done) | (simp; omega) | omega)]; simp [go_sem, s1, s2, s3, s4, hs]
            have z6_wr : wr.heap.size < w6.heap.size := kz6 _ (by first | assumption | (simp; done) | (simp; omega) | omega)
            have q6_w4_1_0 : w6.cell? ⟨w4.heap.size + 1, 0, none⟩ = some (.int .i64 x) := by rw [kc6 _ _ (by first | assumption | (simp; done) | (simp; omega) | omega)]; simp [go_sem, s1, s2, s3, s4, hs]
            have r6_w4_1_0 : w6.frozen? ⟨w4.heap.size + 1, 0, none⟩ = false := by rw [kf6 _ _ (by first | assumption | (simp; done) | (simp; omega) | omega)]; simp [go_sem, s1, s2, s3, s4, hs]
            have q6_w4_1_1 : w6.cell? ⟨w4.heap.size + 1, 1, none⟩ = some (.int .i64 y) := by rw [kc6 _ _ (by first | assumption | (simp; done) | (simp; omega) | omega)]; simp [go_sem, s1, s2, s3, s4, hs]
            have r6_w4_1_1 : w6.frozen? ⟨w4.heap.size + 1, 1, none⟩ = false := by rw [kf6 _ _ (by first | assumption | (simp; done) | (simp; omega) | omega)]; simp [go_sem, s1, s2, s3, s4, hs]
            have z6_w4_1 : w4.heap.size + 1 < w6.heap.size := kz6 _ (by first | assumption | (simp; done) | (simp; omega) | omega)
            clear kc6 kf6 kz6 ky6 kx6 kv6 ku6 hb6 s1 s2 s3 s4 hs
            go_wp2_with fail
            refine (HF.out _).mono ?_
            rintro en w7 ⟨rfl, hb7⟩
            have ha7 : Below w.heap.size w w7 := by (repeat (first | with_reducible exact Below.refl _ _ | with_reducible assumption | with_reducible refine balloc ?_ _ | with_reducible refine bdrew ?_ | with_reducible refine bset ?_ ?_ _ | with_reducible exact Nat.le_refl _ | with_reducible refine bsize ?_ | (dsimp only; refine Nat.le_trans ?_ (Nat.le_add_right _ _)) | with_reducible refine Nat.le_trans ?_ (Nat.le_add_right _ _) | (with_reducible refine bstep ?_ (by assumption))))
            obtain ⟨kc7, kf7, kz7, ky7, kx7, kv7, ku7⟩ := bcell hb7
            have q7_wr_0 : w7.cell? ⟨wr.heap.size, 0, none⟩ = some (.int .i64 pa) := by rw [kc7 _ _ (by first | assumption | (simp; done) | (simp; omega) | omega)]; simp [go_sem, q6_wr_0, r6_wr_0, q6_wr_1, r6_wr_1, q6_wr_2, r6_wr_2, q6_wr_3, r6_wr_3, z6_wr, q6_w4_1_0, r6_w4_1_0, q6_w4_1_1, r6_w4_1_1, z6_w4_1]
            have r7_wr_0 : w7.frozen? ⟨wr.heap.size, 0, none⟩ = false := by rw [kf7 _ _ (by first | assumption | (simp; done) | (simp; omega) | omega)]; simp [go_sem, q6_wr_0, r6_wr_0, q6_wr_1, r6_wr_1, q6_wr_2, r6_wr_2, q6_wr_3, r6_wr_3, z6_wr, q6_w4_1_0, r6_w4_1_0, q6_w4_1_1, r6_w4_1_1, z6_w4_1]
            have q7_wr_1 : w7.cell? ⟨wr.heap.size, 1, none⟩ = some (.int .i64 pb) := by rw [kc7 _ _ (by first | assumption | (simp; done) | (simp; omega) | omega)]; simp [go_sem, q6_wr_0, r6_wr_0, q6_wr_1, r6_wr_1, q6_wr_2, r6_wr_2, q6_wr_3, r6_wr_3, z6_wr, q6_w4_1_0, r6_w4_1_0, q6_w4_1_1, r6_w4_1_1, z6_w4_1]
            have r7_wr_1 : w7.frozen? ⟨wr.heap.size, 1, none⟩ = false := by rw [kf7 _ _ (by first | assumption | (simp; done) | (simp; omega) | omega)]; simp [go_sem, q6_wr_0, r6_wr_0, q6_wr_1, r6_wr_1, q6_wr_2, r6_wr_2, q6_wr_3, r6_wr_3, z6_wr, q6_w4_1_0, r6_w4_1_0, q6_w4_1_1, r6_w4_1_1, z6_w4_1]
            have q7_wr_2 : w7.cell? ⟨wr.heap.size, 2, none⟩ = some (.int .i64 pn) := by rw [kc7 _ _ (by first | assumption | (simp; done) | (simp; omega) | omega)]; simp [go_sem, q6_wr_0, r6_wr_0, q6_wr_1, r6_wr_1, q6_wr_2, r6_wr_2, q6_wr_3, r6_wr_3, z6_wr, q6_w4_1_0, r6_w4_1_0, q6_w4_1_1, r6_w4_1_1, z6_w4_1]
            have r7_wr_2 : w7.frozen? ⟨wr.heap.size, 2, none⟩ = false := by rw [kf7 _ _ (by first | assumption | (simp; done) | (simp; omega) | omega)]; simp [go_sem, q6_wr_0, r6_wr_0, q6_wr_1, r6_wr_1, q6_wr_2, r6_wr_2, q6_wr_3, r6_wr_3, z6_wr, q6_w4_1_0, r6_w4_1_0, q6_w4_1_1, r6_w4_1_1, z6_w4_1]
            have q7_wr_3 : w7.cell? ⟨wr.heap.size, 3, none⟩ = some (.int .i64 pd) := by rw [kc7 _ _ (by first | assumption | (simp; done) | (simp; omega) | omega)]; simp [go_sem, q6_wr_0, r6_wr_0, q6_wr_1, r6_wr_1, q6_wr_2, r6_wr_2, q6_wr_3, r6_wr_3, z6_wr, q6_w4_1_0, r6_w4_1_0, q6_w4_1_1, r6_w4_1_1, z6_w4_1]
            have r7_wr_3 : w7.frozen? ⟨wr.heap.size, 3, none⟩ = false := by rw [kf7 _ _ (by first | assumption | (simp; done) | (simp; omega) | omega)]; simp [go_sem, q6_wr_0, r6_wr_0, q6_wr_1, r6_wr_1, q6_wr_2, r6_wr_2, q6_wr_3, r6_wr_3, z6_wr, q6_w4_1_0, r6_w4_1_0, q6_w4_1_1, r6_w4_1_1, z6_w4_1]
            have z7_wr : wr.heap.size < w7.heap.size := kz7 _ (by first | assumption | (simp; done) | (simp; omega) | omega)
            have q7_w4_1_0 : w7.cell? ⟨w4.heap.size + 1, 0, none⟩ = some (.int .i64 x) := by rw [kc7 _ _ (by first | assumption | (simp; done) | (simp; omega) | omega)]; simp [go_sem, q6_wr_0, r6_wr_0, q6_wr_1, r6_wr_1, q6_wr_2, r6_wr_2, q6_wr_3, r6_wr_3, z6_wr, q6_w4_1_0, r6_w4_1_0, q6_w4_1_1, r6_w4_1_1, z6_w4_1]
            have r7_w4_1_0 : w7.frozen? ⟨w4.heap.size + 1, 0, none⟩ = false := by rw [kf7 _ _ (by first | assumption | (simp; done) | (simp; omega) | omega)]; simp [go_sem, q6_wr_0, r6_wr_0, q6_wr_1, r6_wr_1, q6_wr_2, r6_wr_2, q6_wr_3, r6_wr_3, z6_wr, q6_w4_1_0, r6_w4_1_0, q6_w4_1_1, r6_w4_1_1, z6_w4_1]
            have q7_w4_1_1 : w7.cell? ⟨w4.heap.size + 1, 1, none⟩ = some (.int .i64 y) := by rw [kc7 _ _ (by first | assumption | (simp; done) | (simp; omega) | omega)]; simp [go_sem, q6_wr_0, r6_wr_0, q6_wr_1, r6_wr_1, q6_wr_2, r6_wr_2, q6_wr_3, r6_wr_3, z6_wr, q6_w4_1_0, r6_w4_1_0, q6_w4_1_1, r6_w4_1_1, z6_w4_1]
            have r7_w4_1_1 : w7.frozen? ⟨w4.heap.size + 1, 1, none⟩ = false := by rw [kf7 _ _ (by first | assumption | (simp; done) | (simp; omega) | omega)]; simp [go_sem, q6_wr_0, r6_wr_0, q6_wr_1, r6_wr_1, q6_wr_2, r6_wr_2, q6_wr_3, r6_wr_3, z6_wr, q6_w4_1_0, r6_w4_1_0, q6_w4_1_1, r6_w4_1_1, z6_w4_1]
            have z7_w4_1 : w4.heap.size + 1 < w7.heap.size := kz7 _ (by first | assumption | (simp; done) | (simp; omega) | omega)
            clear kc7 kf7 kz7 ky7 kx7 kv7 ku7 hb7 q6_wr_0 r6_wr_0 q6_wr_1 r6_wr_1 q6_wr_2 r6_wr_2 q6_wr_3 r6_wr_3 z6_wr q6_w4_1_0 r6_w4_1_0 q6_w4_1_1 r6_w4_1_1 z6_w4_1
            go_wp2
            go_roundw
            case rel =>
              refine ⟨k + 1, by omega, by go_num, pa, pb, hGG, hnext, by simp [go_sem, q7_w4_1_0, q7_w4_1_1], by simp [go_sem, q7_w4_1_0, q7_w4_1_1], by simp [go_sem, r7_w4_1_0], by simp [go_sem, r7_w4_1_1], by simp [go_sem]; omega, ?_⟩
              (repeat (first | with_reducible exact Below.refl _ _ | with_reducible assumption | with_reducible refine balloc ?_ _ | with_reducible refine bdrew ?_ | with_reducible refine bset ?_ ?_ _ | with_reducible exact Nat.le_refl _ | with_reducible refine bsize ?_ | (dsimp only; refine Nat.le_trans ?_ (Nat.le_add_right _ _)) | with_reducible refine Nat.le_trans ?_ (Nat.le_add_right _ _) | (with_reducible refine bstep ?_ (by assumption))))
            case measure => simp [intOf]; omega
        · have hnone : Hid (depsB l 0 1 = false) := by
            have h := hstep.out
            show depsB l 0 1 = false
            rw [← h]
            simp [depB, hlt2]
          have hsg : 0 ≤ sgI (x * pb - pa * y) := by unfold sgI; split <;> (try split) <;> omega
          clear hstep hG hlt2
          go_wp2_with fail
          refine (HC.out _).mono ?_
          rintro en w6 ⟨rfl, hb6⟩
          have ha6 : Below w.heap.size w w6 := by (repeat (first | with_reducible exact Below.refl _ _ | with_reducible assumption | with_reducible refine balloc ?_ _ | with_reducible refine bdrew ?_ | with_reducible refine bset ?_ ?_ _ | with_reducible exact Nat.le_refl _ | with_reducible refine bsize ?_ | (dsimp only; refine Nat.le_trans ?_ (Nat.le_add_right _ _)) | with_reducible refine Nat.le_trans ?_ (Nat.le_add_right _ _) | (with_reducible refine bstep ?_ (by assumption))))
          generalize sgI (x * pb - pa * y) = sg at hsg ⊢
          go_wp2
          rw [hnone.out]
          go_ret
          refine ⟨rfl, ?_⟩
          (repeat (first | with_reducible exact Below.refl _ _ | with_reducible assumption | with_reducible refine balloc ?_ _ | with_reducible refine bdrew ?_ | with_reducible refine bset ?_ ?_ _ | with_reducible exact Nat.le_refl _ | with_reducible refine bsize ?_ | (dsimp only; refine Nat.le_trans ?_ (Nat.le_add_right _ _)) | with_reducible refine Nat.le_trans ?_ (Nat.le_add_right _ _) | (with_reducible refine bstep ?_ (by assumption))))
    · have hkl : k = l.length := by omega
      subst hkl
      have hfin : Hid (depsB l 0 1 = true) := by
        have := hfold.out
        rw [List.drop_length] at this
        exact this.symm
      clear hfold
      go_wp2
      rw [hfin.out]
      go_ret
      refine ⟨rfl, ?_⟩
      (repeat (first | with_reducible exact Below.refl _ _ | with_reducible assumption | with_reducible refine balloc ?_ _ | with_reducible refine bdrew ?_ | with_reducible refine bset ?_ ?_ _ | with_reducible exact Nat.le_refl _ | with_reducible refine bsize ?_ | (dsimp only; refine Nat.le_trans ?_ (Nat.le_add_right _ _)) | with_reducible refine Nat.le_trans ?_ (Nat.le_add_right _ _) | (with_reducible refine bstep ?_ (by assumption))))
end Go.Proofs.Ytkpeiibncbcdhaa
