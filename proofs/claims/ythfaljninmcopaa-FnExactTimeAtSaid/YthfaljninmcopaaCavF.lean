/- Caravans: where one is at a time, when it comes to a place: of the program and of the model. -/
import Derived.Test.YthfaljninmcopaaCavT
import Derived.Test.YthfaljninmcopaaCam5
import Derived.Test.YthfaljninmcopaaCavM
import Derived.Test.YthfaljninmcopaaRes8
import Derived.Deep.RegionHeld3
import Derived.Deep.RegionWith
import Derived.IntWalk
namespace Go.Proofs.Ythfaljninmcopaa
open Go.ChangeShapes Go.WideShapes Go.ChangeAt Go.RowKit Go.Joins
set_option maxRecDepth 100000
set_option linter.unusedVariables false
set_option linter.unusedSimpArgs false

/-- Is it a time? -/
def tmB (x y : Int) : Bool := amB x y && decide (y ≤ 1000) && decide (x ≤ 1000 * y)
theorem tmB_yes {x y : Int} (h : tmB x y = true) : amB x y = true ∧ y ≤ 1000 ∧ x ≤ 1000 * y := by
  simp [tmB] at h; exact ⟨h.1.1, h.1.2, h.2⟩
set_option maxHeartbeats 800000 in
theorem isTime_impl (x y : Int) (b0 : -9223372036854775808 ≤ x ∧ x ≤ 9223372036854775807) (b1 : -9223372036854775808 ≤ y ∧ y ≤ 9223372036854775807) (w : World) :
    Calls Try.prog 48 #[.agg #[.int .i64 x, .int .i64 y]] w fun e w' => e = .returned (.bool (tmB x y)) ∧ Below w.heap.size w w' := by
  have HA := Lib.hid (fun W => isam_impl x y b0.2 b1.2 W)
  cases h1 : amB x y
  · rw [show tmB x y = false by simp [tmB, h1]]
    rw [h1] at HA
    go_enter Try.func48, Try.ntmps48
    go_wp2_with fail
    refine (HA.out _).mono ?_
    rintro e w1 ⟨rfl, hb1⟩
    go_wp2
    go_ret
    refine ⟨rfl, ?_⟩
    (repeat (first | with_reducible exact Below.refl _ _ | with_reducible assumption | with_reducible refine balloc ?_ _ | with_reducible refine bdrew ?_ | with_reducible refine below_drewN ?_ _ | with_reducible refine bset ?_ ?_ _ | with_reducible exact Nat.le_refl _ | with_reducible refine bsize ?_ | (dsimp only; refine Nat.le_trans ?_ (Nat.le_add_right _ _)) | with_reducible refine Nat.le_trans ?_ (Nat.le_add_right _ _) | (with_reducible refine bstep ?_ (by assumption))))
  · have hA := am_of x y h1
    obtain ⟨a1, a2, a3, a4⟩ := hA
    rw [h1] at HA
    by_cases h2 : y ≤ 1000
    · rw [show tmB x y = decide (x ≤ 1000 * y) by simp [tmB, h1, h2]]
      go_enter Try.func48, Try.ntmps48
      go_wp2_with fail
      refine (HA.out _).mono ?_
      rintro e w1 ⟨rfl, hb1⟩
      have q0 : w1.cell? ⟨w.heap.size, 0, none⟩ = some (.int .i64 x) := keepa hb1 (by simp) (by simp [go_sem])
      have q1 : w1.cell? ⟨w.heap.size, 1, none⟩ = some (.int .i64 y) := keepa hb1 (by simp) (by simp [go_sem])
      go_wp2
      go_ret
      refine ⟨rfl, ?_⟩
      (repeat (first | with_reducible exact Below.refl _ _ | with_reducible assumption | with_reducible refine balloc ?_ _ | with_reducible refine bdrew ?_ | with_reducible refine below_drewN ?_ _ | with_reducible refine bset ?_ ?_ _ | with_reducible exact Nat.le_refl _ | with_reducible refine bsize ?_ | (dsimp only; refine Nat.le_trans ?_ (Nat.le_add_right _ _)) | with_reducible refine Nat.le_trans ?_ (Nat.le_add_right _ _) | (with_reducible refine bstep ?_ (by assumption))))
    · rw [show tmB x y = false by simp [tmB, h2]]
      go_enter Try.func48, Try.ntmps48
      go_wp2_with fail
      refine (HA.out _).mono ?_
      rintro e w1 ⟨rfl, hb1⟩
      have q0 : w1.cell? ⟨w.heap.size, 0, none⟩ = some (.int .i64 x) := keepa hb1 (by simp) (by simp [go_sem])
      have q1 : w1.cell? ⟨w.heap.size, 1, none⟩ = some (.int .i64 y) := keepa hb1 (by simp) (by simp [go_sem])
      go_wp2
      go_ret
      refine ⟨rfl, ?_⟩
      (repeat (first | with_reducible exact Below.refl _ _ | with_reducible assumption | with_reducible refine balloc ?_ _ | with_reducible refine bdrew ?_ | with_reducible refine below_drewN ?_ _ | with_reducible refine bset ?_ ?_ _ | with_reducible exact Nat.le_refl _ | with_reducible refine bsize ?_ | (dsimp only; refine Nat.le_trans ?_ (Nat.le_add_right _ _)) | with_reducible refine Nat.le_trans ?_ (Nat.le_add_right _ _) | (with_reducible refine bstep ?_ (by assumption))))

/-- Where it is at the time x / y, over y. -/
def cpN (f s v x y : Int) : Int := f * y + v * max 0 (x - s * y)
structure CpBd (f s v x y : Int) : Prop where
  a : 0 ≤ s * y ∧ s * y ≤ 10000000000
  b : 0 ≤ f * y ∧ f * y ≤ 10000000000
  c : 0 ≤ v * max 0 (x - s * y) ∧ v * max 0 (x - s * y) ≤ 100000000000000
theorem cp_bd {f s v x y : Int} (hf : 0 ≤ f ∧ f ≤ 1000) (hs : 0 ≤ s ∧ s ≤ 1000) (hv : 1 ≤ v ∧ v ≤ 1000) (hx : 0 ≤ x ∧ x ≤ 10000000000) (hy : 1 ≤ y ∧ y ≤ 1000000) : CpBd f s v x y := by
  have a : 0 ≤ s * y ∧ s * y ≤ 1000 * 1000000 := ⟨Int.mul_nonneg hs.1 (by omega), Int.mul_le_mul hs.2 hy.2 (by omega) (by omega)⟩
  have b : 0 ≤ f * y ∧ f * y ≤ 1000 * 1000000 := ⟨Int.mul_nonneg hf.1 (by omega), Int.mul_le_mul hf.2 hy.2 (by omega) (by omega)⟩
  have m : 0 ≤ max 0 (x - s * y) ∧ max 0 (x - s * y) ≤ 10000000000 := by omega
  have c : 0 ≤ v * max 0 (x - s * y) ∧ v * max 0 (x - s * y) ≤ 1000 * 10000000000 := ⟨Int.mul_nonneg (by omega) m.1, Int.mul_le_mul hv.2 m.2 m.1 (by omega)⟩
  exact ⟨by omega, by omega, by omega⟩
set_option maxHeartbeats 1600000 in
theorem placeAt_impl (f s v x y : Int) (h : CpBd f s v x y) (bx : 0 ≤ x ∧ x ≤ 10000000000) (by0 : 1 ≤ y ∧ y ≤ 1000000) (w : World) :
    Calls Try.prog 49 #[.agg #[.int .i64 f, .int .i64 s, .int .i64 v], .agg #[.int .i64 x, .int .i64 y]] w fun e w' => e = .returned (.tuple #[.agg #[.int .i64 (lowN (cpN f s v x y) y), .int .i64 (lowD (cpN f s v x y) y)], .bool (lowB (cpN f s v x y) y)]) ∧ Below w.heap.size w w' := by
  obtain ⟨h1, h2, h3⟩ := h
  unfold cpN
  have HL := Lib.hid (fun W n hn => low_impl n y hn (by omega) W)
  obtain ⟨m, hm⟩ : ∃ m, m = max 0 (x - s * y) := ⟨_, rfl⟩
  by_cases hx : 0 < x - s * y
  · have e : max 0 (x - s * y) = x - s * y := by omega
    rw [e] at h3 ⊢
    clear hm e
    go_enter Try.func49, Try.ntmps49
    (go_wp2_with fail; refine (HL.out _ _ (by omega)).mono ?_; rintro e w1 ⟨rfl, hb1⟩; have ha1 := hb1; obtain ⟨kc1, kf1, kz1, ky1, kx1, kv1, ku1⟩ := bcell hb1)
    go_wp2
    refine bodyPost_ret (v := .tuple #[.agg #[.int .i64 (lowN (f * y + v * (x - s * y)) y), .int .i64 (lowD (f * y + v * (x - s * y)) y)], .bool (lowB (f * y + v * (x - s * y)) y)]) (by simp only [results, Try.results49]; go_simp) rfl ⟨rfl, ?_⟩
    (repeat (first | with_reducible exact Below.refl _ _ | with_reducible assumption | with_reducible refine balloc ?_ _ | with_reducible refine bdrew ?_ | with_reducible refine below_drewN ?_ _ | with_reducible refine bset ?_ ?_ _ | with_reducible exact Nat.le_refl _ | with_reducible refine bsize ?_ | (dsimp only; refine Nat.le_trans ?_ (Nat.le_add_right _ _)) | with_reducible refine Nat.le_trans ?_ (Nat.le_add_right _ _) | (with_reducible refine bstep ?_ (by assumption))))
  · have e : max 0 (x - s * y) = 0 := by omega
    rw [e] at h3 ⊢
    clear hm e
    go_enter Try.func49, Try.ntmps49
    (go_wp2_with fail; refine (HL.out _ _ (by omega)).mono ?_; rintro e w1 ⟨rfl, hb1⟩; have ha1 := hb1; obtain ⟨kc1, kf1, kz1, ky1, kx1, kv1, ku1⟩ := bcell hb1)
    go_wp2
    refine bodyPost_ret (v := .tuple #[.agg #[.int .i64 (lowN (f * y + v * 0) y), .int .i64 (lowD (f * y + v * 0) y)], .bool (lowB (f * y + v * 0) y)]) (by simp only [results, Try.results49]; go_simp) rfl ⟨rfl, ?_⟩
    (repeat (first | with_reducible exact Below.refl _ _ | with_reducible assumption | with_reducible refine balloc ?_ _ | with_reducible refine bdrew ?_ | with_reducible refine below_drewN ?_ _ | with_reducible refine bset ?_ ?_ _ | with_reducible exact Nat.le_refl _ | with_reducible refine bsize ?_ | (dsimp only; refine Nat.le_trans ?_ (Nat.le_add_right _ _)) | with_reducible refine Nat.le_trans ?_ (Nat.le_add_right _ _) | (with_reducible refine bstep ?_ (by assumption))))
theorem missed_impl (f s v : Int) (hs : 0 ≤ s ∧ s ≤ 1000) (hv : 1 ≤ v ∧ v ≤ 1000) (w : World) :
    Calls Try.prog 52 #[.agg #[.int .i64 f, .int .i64 s, .int .i64 v]] w fun e w' => e = .returned (.int .i64 (v * s)) ∧ Below w.heap.size w w' := by
  have b : 0 ≤ v * s ∧ v * s ≤ 1000 * 1000 := ⟨Int.mul_nonneg (by omega) hs.1, Int.mul_le_mul hv.2 hs.2 hs.1 (by omega)⟩
  go_enter Try.func52, Try.ntmps52
  go_wp2
  go_ret
  refine ⟨rfl, ?_⟩
  (repeat (first | with_reducible exact Below.refl _ _ | with_reducible assumption | with_reducible refine balloc ?_ _ | with_reducible refine bdrew ?_ | with_reducible refine below_drewN ?_ _ | with_reducible refine bset ?_ ?_ _ | with_reducible exact Nat.le_refl _ | with_reducible refine bsize ?_ | (dsimp only; refine Nat.le_trans ?_ (Nat.le_add_right _ _)) | with_reducible refine Nat.le_trans ?_ (Nat.le_add_right _ _) | (with_reducible refine bstep ?_ (by assumption))))
set_option maxHeartbeats 3200000 in
theorem cvPlace_spec (f s v x y : Int) (h : CpBd f s v x y) (bx : 0 ≤ x ∧ x ≤ 10000000000) (w : World) :
    Calls Try.prog 47 #[.agg #[.int .i64 f, .int .i64 s, .int .i64 v], .int .i64 x, .int .i64 y] w fun e w' => e = .returned (.int .i64 (cpN f s v x y)) ∧ Below w.heap.size w w' := by
  obtain ⟨h1, h2, h3⟩ := h
  unfold cpN
  have HM := Lib.hid (fun W => most_spec 0 (x - s * y) W)
  generalize max 0 (x - s * y) = m at *
  go_enter Try.func47, Try.ntmps47
  go_wp2_with fail
  have wq1 : IntKind.i64.wrap (s * y) = s * y := IntWalk.i64_in _ (by omega)
  have wq2 : IntKind.i64.wrap (x - s * y) = x - s * y := IntWalk.i64_in _ (by omega)
  have wq3 : IntKind.i64.wrap (f * y) = f * y := IntWalk.i64_in _ (by omega)
  have wq4 : IntKind.i64.wrap (v * m) = v * m := IntWalk.i64_in _ (by omega)
  have wq5 : IntKind.i64.wrap (f * y + v * m) = f * y + v * m := IntWalk.i64_in _ (by omega)
  go_region_held3 (fun W => Below w.heap.size w W ∧ W.cell? ⟨w.heap.size, 0, none⟩ = some (.int .i64 f) ∧ W.cell? ⟨w.heap.size, 1, none⟩ = some (.int .i64 s) ∧ W.cell? ⟨w.heap.size, 2, none⟩ = some (.int .i64 v)) (((go_split_ands; (repeat' with_reducible apply And.intro) <;> first | with_reducible assumption | with_reducible exact Below.refl _ _ | with_reducible exact Res8.drew (by with_reducible assumption) | with_reducible exact Res8.drew (Res8.alloc (by with_reducible assumption) _) | with_reducible exact Res8.alloc (by with_reducible assumption) _ | with_reducible exact (Res8.set (Res8.set (by with_reducible assumption) 0 _ (by omega)) 1 _ (by omega)) | with_reducible exact Res8.drew (Res8.set (Res8.set (by with_reducible assumption) 0 _ (by omega)) 1 _ (by omega)) | ((repeat (first | with_reducible exact Below.refl _ _ | with_reducible assumption | with_reducible refine balloc ?_ _ | with_reducible refine bdrew ?_ | with_reducible refine below_drewN ?_ _ | with_reducible refine bset ?_ ?_ _ | with_reducible exact Nat.le_refl _ | with_reducible refine bsize ?_ | (dsimp only; refine Nat.le_trans ?_ (Nat.le_add_right _ _)) | with_reducible refine Nat.le_trans ?_ (Nat.le_add_right _ _) | (with_reducible refine bstep ?_ (by assumption)))); done) | (simp [go_sem]; done) | (simp; omega) | (simp [go_sem, *]; done) | go_keep))) (first | (go_at_call 66; refine (HM.out _).mono ?_; rintro e w1 ⟨rfl, rfl⟩))
  all_goals
    go_wp2
    go_ret
    refine ⟨rfl, ?_⟩
    (repeat (first | with_reducible exact Below.refl _ _ | with_reducible assumption | with_reducible refine balloc ?_ _ | with_reducible refine bdrew ?_ | with_reducible refine below_drewN ?_ _ | with_reducible refine bset ?_ ?_ _ | with_reducible exact Nat.le_refl _ | with_reducible refine bsize ?_ | (dsimp only; refine Nat.le_trans ?_ (Nat.le_add_right _ _)) | with_reducible refine Nat.le_trans ?_ (Nat.le_add_right _ _) | (with_reducible refine bstep ?_ (by assumption))))

def paK (f s v x y : Int) : Bool := crB f s v && tmB x y
set_option maxHeartbeats 1600000 in
theorem place_pub (f s v x y : Int) (b2 : -9223372036854775808 ≤ v ∧ v ≤ 9223372036854775807) (b3 : -9223372036854775808 ≤ x ∧ x ≤ 9223372036854775807) (b4 : -9223372036854775808 ≤ y ∧ y ≤ 9223372036854775807) (w : World) :
    Calls Try.prog 20 #[.agg #[.int .i64 f, .int .i64 s, .int .i64 v], .agg #[.int .i64 x, .int .i64 y]] w fun e w' => e = .returned (.tuple #[.agg #[.int .i64 (twoN (paK f s v x y) (cpN f s v x y) y), .int .i64 (twoD (paK f s v x y) (cpN f s v x y) y)], .bool (twoB (paK f s v x y) (cpN f s v x y) y)]) ∧ Below w.heap.size w w' := by
  have HC := Lib.hid (fun W => isCav_impl f s v b2 W)
  have HT := Lib.hid (fun W => isTime_impl x y b3 b4 W)
  cases h1 : crB f s v
  · obtain ⟨e1, e2, e3⟩ := nolow8 (paK f s v x y) (cpN f s v x y) y (by simp [paK, h1])
    rw [e1, e2, e3]; clear e1 e2 e3
    rw [h1] at HC
    go_enter Try.func20, Try.ntmps20
    (go_wp2_with fail; refine (HC.out _).mono ?_; rintro e w1 ⟨rfl, hb1⟩; have ha1 := hb1; obtain ⟨kc1, kf1, kz1, ky1, kx1, kv1, ku1⟩ := bcell hb1)
    go_wp2
    refine bodyPost_ret (v := .tuple #[.agg #[.int .i64 0, .int .i64 0], .bool false]) (by simp only [results, Try.results20]; go_simp) rfl ⟨rfl, ?_⟩
    (repeat (first | with_reducible exact Below.refl _ _ | with_reducible assumption | with_reducible refine balloc ?_ _ | with_reducible refine bdrew ?_ | with_reducible refine below_drewN ?_ _ | with_reducible refine bset ?_ ?_ _ | with_reducible exact Nat.le_refl _ | with_reducible refine bsize ?_ | (dsimp only; refine Nat.le_trans ?_ (Nat.le_add_right _ _)) | with_reducible refine Nat.le_trans ?_ (Nat.le_add_right _ _) | (with_reducible refine bstep ?_ (by assumption))))
  · cases h2 : tmB x y
    · obtain ⟨e1, e2, e3⟩ := nolow8 (paK f s v x y) (cpN f s v x y) y (by simp [paK, h2])
      rw [e1, e2, e3]; clear e1 e2 e3
      rw [h1] at HC
      rw [h2] at HT
      go_enter Try.func20, Try.ntmps20
      (go_wp2_with fail; refine (HC.out _).mono ?_; rintro e w1 ⟨rfl, hb1⟩; (have ha1 : Below w.heap.size w w1 := by (repeat (first | with_reducible exact Below.refl _ _ | with_reducible assumption | with_reducible refine balloc ?_ _ | with_reducible refine bdrew ?_ | with_reducible refine below_drewN ?_ _ | with_reducible refine bset ?_ ?_ _ | with_reducible exact Nat.le_refl _ | with_reducible refine bsize ?_ | (dsimp only; refine Nat.le_trans ?_ (Nat.le_add_right _ _)) | with_reducible refine Nat.le_trans ?_ (Nat.le_add_right _ _) | (with_reducible refine bstep ?_ (by assumption))))); obtain ⟨kc1, kf1, kz1, ky1, kx1, kv1, ku1⟩ := bcell hb1)
      have q1_h_0 : w1.cell? ⟨w.heap.size, 0, none⟩ = some (.int .i64 f) := by rw [kc1 _ _ (by first | assumption | (simp; done) | (simp; omega) | omega)]; simp [go_sem]
      have r1_h_0 : w1.frozen? ⟨w.heap.size, 0, none⟩ = false := by rw [kf1 _ _ (by first | assumption | (simp; done) | (simp; omega) | omega)]; simp [go_sem]
      have q1_h_1 : w1.cell? ⟨w.heap.size, 1, none⟩ = some (.int .i64 s) := by rw [kc1 _ _ (by first | assumption | (simp; done) | (simp; omega) | omega)]; simp [go_sem]
      have r1_h_1 : w1.frozen? ⟨w.heap.size, 1, none⟩ = false := by rw [kf1 _ _ (by first | assumption | (simp; done) | (simp; omega) | omega)]; simp [go_sem]
      have q1_h_2 : w1.cell? ⟨w.heap.size, 2, none⟩ = some (.int .i64 v) := by rw [kc1 _ _ (by first | assumption | (simp; done) | (simp; omega) | omega)]; simp [go_sem]
      have r1_h_2 : w1.frozen? ⟨w.heap.size, 2, none⟩ = false := by rw [kf1 _ _ (by first | assumption | (simp; done) | (simp; omega) | omega)]; simp [go_sem]
      have z1_h : w.heap.size < w1.heap.size := kz1 _ (by first | assumption | (simp; done) | (simp; omega) | omega)
      have q1_h_1_0 : w1.cell? ⟨w.heap.size + 1, 0, none⟩ = some (.int .i64 x) := by rw [kc1 _ _ (by first | assumption | (simp; done) | (simp; omega) | omega)]; simp [go_sem]
      have r1_h_1_0 : w1.frozen? ⟨w.heap.size + 1, 0, none⟩ = false := by rw [kf1 _ _ (by first | assumption | (simp; done) | (simp; omega) | omega)]; simp [go_sem]
      have q1_h_1_1 : w1.cell? ⟨w.heap.size + 1, 1, none⟩ = some (.int .i64 y) := by rw [kc1 _ _ (by first | assumption | (simp; done) | (simp; omega) | omega)]; simp [go_sem]
      have r1_h_1_1 : w1.frozen? ⟨w.heap.size + 1, 1, none⟩ = false := by rw [kf1 _ _ (by first | assumption | (simp; done) | (simp; omega) | omega)]; simp [go_sem]
      have z1_h_1 : w.heap.size + 1 < w1.heap.size := kz1 _ (by first | assumption | (simp; done) | (simp; omega) | omega)
      have q1_h_1_1_0 : w1.cell? ⟨w.heap.size + 1 + 1, 0, none⟩ = some (.int .i64 0) := by rw [kc1 _ _ (by first | assumption | (simp; done) | (simp; omega) | omega)]; simp [go_sem]
      have r1_h_1_1_0 : w1.frozen? ⟨w.heap.size + 1 + 1, 0, none⟩ = false := by rw [kf1 _ _ (by first | assumption | (simp; done) | (simp; omega) | omega)]; simp [go_sem]
      have q1_h_1_1_1 : w1.cell? ⟨w.heap.size + 1 + 1, 1, none⟩ = some (.int .i64 0) := by rw [kc1 _ _ (by first | assumption | (simp; done) | (simp; omega) | omega)]; simp [go_sem]
      have r1_h_1_1_1 : w1.frozen? ⟨w.heap.size + 1 + 1, 1, none⟩ = false := by rw [kf1 _ _ (by first | assumption | (simp; done) | (simp; omega) | omega)]; simp [go_sem]
      have z1_h_1_1 : w.heap.size + 1 + 1 < w1.heap.size := kz1 _ (by first | assumption | (simp; done) | (simp; omega) | omega)
      clear kc1 kf1 kz1 ky1 kx1 kv1 ku1 hb1
      (go_wp2_with fail; refine (HT.out _).mono ?_; rintro e w2 ⟨rfl, hb2⟩; (have ha2 : Below w.heap.size w w2 := by (repeat (first | with_reducible exact Below.refl _ _ | with_reducible assumption | with_reducible refine balloc ?_ _ | with_reducible refine bdrew ?_ | with_reducible refine below_drewN ?_ _ | with_reducible refine bset ?_ ?_ _ | with_reducible exact Nat.le_refl _ | with_reducible refine bsize ?_ | (dsimp only; refine Nat.le_trans ?_ (Nat.le_add_right _ _)) | with_reducible refine Nat.le_trans ?_ (Nat.le_add_right _ _) | (with_reducible refine bstep ?_ (by assumption))))); obtain ⟨kc2, kf2, kz2, ky2, kx2, kv2, ku2⟩ := bcell hb2)
      have q2_h_1_1_0 : w2.cell? ⟨w.heap.size + 1 + 1, 0, none⟩ = some (.int .i64 0) := by rw [kc2 _ _ (by first | assumption | (simp; done) | (simp; omega) | omega)]; simp [go_sem, q1_h_0, r1_h_0, q1_h_1, r1_h_1, q1_h_2, r1_h_2, z1_h, q1_h_1_0, r1_h_1_0, q1_h_1_1, r1_h_1_1, z1_h_1, q1_h_1_1_0, r1_h_1_1_0, q1_h_1_1_1, r1_h_1_1_1, z1_h_1_1]
      have r2_h_1_1_0 : w2.frozen? ⟨w.heap.size + 1 + 1, 0, none⟩ = false := by rw [kf2 _ _ (by first | assumption | (simp; done) | (simp; omega) | omega)]; simp [go_sem, q1_h_0, r1_h_0, q1_h_1, r1_h_1, q1_h_2, r1_h_2, z1_h, q1_h_1_0, r1_h_1_0, q1_h_1_1, r1_h_1_1, z1_h_1, q1_h_1_1_0, r1_h_1_1_0, q1_h_1_1_1, r1_h_1_1_1, z1_h_1_1]
      have q2_h_1_1_1 : w2.cell? ⟨w.heap.size + 1 + 1, 1, none⟩ = some (.int .i64 0) := by rw [kc2 _ _ (by first | assumption | (simp; done) | (simp; omega) | omega)]; simp [go_sem, q1_h_0, r1_h_0, q1_h_1, r1_h_1, q1_h_2, r1_h_2, z1_h, q1_h_1_0, r1_h_1_0, q1_h_1_1, r1_h_1_1, z1_h_1, q1_h_1_1_0, r1_h_1_1_0, q1_h_1_1_1, r1_h_1_1_1, z1_h_1_1]
      have r2_h_1_1_1 : w2.frozen? ⟨w.heap.size + 1 + 1, 1, none⟩ = false := by rw [kf2 _ _ (by first | assumption | (simp; done) | (simp; omega) | omega)]; simp [go_sem, q1_h_0, r1_h_0, q1_h_1, r1_h_1, q1_h_2, r1_h_2, z1_h, q1_h_1_0, r1_h_1_0, q1_h_1_1, r1_h_1_1, z1_h_1, q1_h_1_1_0, r1_h_1_1_0, q1_h_1_1_1, r1_h_1_1_1, z1_h_1_1]
      have z2_h_1_1 : w.heap.size + 1 + 1 < w2.heap.size := kz2 _ (by first | assumption | (simp; done) | (simp; omega) | omega)
      clear kc2 kf2 kz2 ky2 kx2 kv2 ku2 hb2 q1_h_0 r1_h_0 q1_h_1 r1_h_1 q1_h_2 r1_h_2 z1_h q1_h_1_0 r1_h_1_0 q1_h_1_1 r1_h_1_1 z1_h_1 q1_h_1_1_0 r1_h_1_1_0 q1_h_1_1_1 r1_h_1_1_1 z1_h_1_1
      go_wp2
      refine bodyPost_ret (v := .tuple #[.agg #[.int .i64 0, .int .i64 0], .bool false]) (by simp only [results, Try.results20]; go_simp) rfl ⟨rfl, ?_⟩
      (repeat (first | with_reducible exact Below.refl _ _ | with_reducible assumption | with_reducible refine balloc ?_ _ | with_reducible refine bdrew ?_ | with_reducible refine below_drewN ?_ _ | with_reducible refine bset ?_ ?_ _ | with_reducible exact Nat.le_refl _ | with_reducible refine bsize ?_ | (dsimp only; refine Nat.le_trans ?_ (Nat.le_add_right _ _)) | with_reducible refine Nat.le_trans ?_ (Nat.le_add_right _ _) | (with_reducible refine bstep ?_ (by assumption))))
    · rw [show paK f s v x y = true by simp [paK, h1, h2], (two_yes _ _).1, (two_yes _ _).2.1, (two_yes _ _).2.2]
      obtain ⟨f0, s0, v0⟩ := crB_yes h1
      obtain ⟨t0, t1, t2⟩ := tmB_yes h2
      have hA := am_of x y t0
      have hx : 0 ≤ x ∧ x ≤ 10000000000 := ⟨hA.a, by have := hA.b; omega⟩
      have hy : 1 ≤ y ∧ y ≤ 1000000 := ⟨hA.c, by omega⟩
      have HP := Lib.hid (fun W => placeAt_impl f s v x y (cp_bd f0 s0 v0 hx hy) hx hy W)
      rw [h1] at HC
      rw [h2] at HT
      clear hA t0 t1 t2 h1 h2
      obtain ⟨R1, hR1⟩ : ∃ R, lowN (cpN f s v x y) y = R := ⟨_, rfl⟩
      obtain ⟨R2, hR2⟩ : ∃ R, lowD (cpN f s v x y) y = R := ⟨_, rfl⟩
      obtain ⟨R3, hR3⟩ : ∃ R, lowB (cpN f s v x y) y = R := ⟨_, rfl⟩
      rw [hR1, hR2, hR3]; rw [hR1, hR2, hR3] at HP
      clear hR1 hR2 hR3
      go_enter Try.func20, Try.ntmps20
      (go_wp2_with fail; refine (HC.out _).mono ?_; rintro e w1 ⟨rfl, hb1⟩; (have ha1 : Below w.heap.size w w1 := by (repeat (first | with_reducible exact Below.refl _ _ | with_reducible assumption | with_reducible refine balloc ?_ _ | with_reducible refine bdrew ?_ | with_reducible refine below_drewN ?_ _ | with_reducible refine bset ?_ ?_ _ | with_reducible exact Nat.le_refl _ | with_reducible refine bsize ?_ | (dsimp only; refine Nat.le_trans ?_ (Nat.le_add_right _ _)) | with_reducible refine Nat.le_trans ?_ (Nat.le_add_right _ _) | (with_reducible refine bstep ?_ (by assumption))))); obtain ⟨kc1, kf1, kz1, ky1, kx1, kv1, ku1⟩ := bcell hb1)
      have q1_h_0 : w1.cell? ⟨w.heap.size, 0, none⟩ = some (.int .i64 f) := by rw [kc1 _ _ (by first | assumption | (simp; done) | (simp; omega) | omega)]; simp [go_sem]
      have r1_h_0 : w1.frozen? ⟨w.heap.size, 0, none⟩ = false := by rw [kf1 _ _ (by first | assumption | (simp; done) | (simp; omega) | omega)]; simp [go_sem]
      have q1_h_1 : w1.cell? ⟨w.heap.size, 1, none⟩ = some (.int .i64 s) := by rw [kc1 _ _ (by first | assumption | (simp; done) | (simp; omega) | omega)]; simp [go_sem]
      have r1_h_1 : w1.frozen? ⟨w.heap.size, 1, none⟩ = false := by rw [kf1 _ _ (by first | assumption | (simp; done) | (simp; omega) | omega)]; simp [go_sem]
      have q1_h_2 : w1.cell? ⟨w.heap.size, 2, none⟩ = some (.int .i64 v) := by rw [kc1 _ _ (by first | assumption | (simp; done) | (simp; omega) | omega)]; simp [go_sem]
      have r1_h_2 : w1.frozen? ⟨w.heap.size, 2, none⟩ = false := by rw [kf1 _ _ (by first | assumption | (simp; done) | (simp; omega) | omega)]; simp [go_sem]
      have z1_h : w.heap.size < w1.heap.size := kz1 _ (by first | assumption | (simp; done) | (simp; omega) | omega)
      have q1_h_1_0 : w1.cell? ⟨w.heap.size + 1, 0, none⟩ = some (.int .i64 x) := by rw [kc1 _ _ (by first | assumption | (simp; done) | (simp; omega) | omega)]; simp [go_sem]
      have r1_h_1_0 : w1.frozen? ⟨w.heap.size + 1, 0, none⟩ = false := by rw [kf1 _ _ (by first | assumption | (simp; done) | (simp; omega) | omega)]; simp [go_sem]
      have q1_h_1_1 : w1.cell? ⟨w.heap.size + 1, 1, none⟩ = some (.int .i64 y) := by rw [kc1 _ _ (by first | assumption | (simp; done) | (simp; omega) | omega)]; simp [go_sem]
      have r1_h_1_1 : w1.frozen? ⟨w.heap.size + 1, 1, none⟩ = false := by rw [kf1 _ _ (by first | assumption | (simp; done) | (simp; omega) | omega)]; simp [go_sem]
      have z1_h_1 : w.heap.size + 1 < w1.heap.size := kz1 _ (by first | assumption | (simp; done) | (simp; omega) | omega)
      have q1_h_1_1_0 : w1.cell? ⟨w.heap.size + 1 + 1, 0, none⟩ = some (.int .i64 0) := by rw [kc1 _ _ (by first | assumption | (simp; done) | (simp; omega) | omega)]; simp [go_sem]
      have r1_h_1_1_0 : w1.frozen? ⟨w.heap.size + 1 + 1, 0, none⟩ = false := by rw [kf1 _ _ (by first | assumption | (simp; done) | (simp; omega) | omega)]; simp [go_sem]
      have q1_h_1_1_1 : w1.cell? ⟨w.heap.size + 1 + 1, 1, none⟩ = some (.int .i64 0) := by rw [kc1 _ _ (by first | assumption | (simp; done) | (simp; omega) | omega)]; simp [go_sem]
      have r1_h_1_1_1 : w1.frozen? ⟨w.heap.size + 1 + 1, 1, none⟩ = false := by rw [kf1 _ _ (by first | assumption | (simp; done) | (simp; omega) | omega)]; simp [go_sem]
      have z1_h_1_1 : w.heap.size + 1 + 1 < w1.heap.size := kz1 _ (by first | assumption | (simp; done) | (simp; omega) | omega)
      clear kc1 kf1 kz1 ky1 kx1 kv1 ku1 hb1
      (go_wp2_with fail; refine (HT.out _).mono ?_; rintro e w2 ⟨rfl, hb2⟩; (have ha2 : Below w.heap.size w w2 := by (repeat (first | with_reducible exact Below.refl _ _ | with_reducible assumption | with_reducible refine balloc ?_ _ | with_reducible refine bdrew ?_ | with_reducible refine below_drewN ?_ _ | with_reducible refine bset ?_ ?_ _ | with_reducible exact Nat.le_refl _ | with_reducible refine bsize ?_ | (dsimp only; refine Nat.le_trans ?_ (Nat.le_add_right _ _)) | with_reducible refine Nat.le_trans ?_ (Nat.le_add_right _ _) | (with_reducible refine bstep ?_ (by assumption))))); obtain ⟨kc2, kf2, kz2, ky2, kx2, kv2, ku2⟩ := bcell hb2)
      have q2_h_0 : w2.cell? ⟨w.heap.size, 0, none⟩ = some (.int .i64 f) := by rw [kc2 _ _ (by first | assumption | (simp; done) | (simp; omega) | omega)]; simp [go_sem, q1_h_0, r1_h_0, q1_h_1, r1_h_1, q1_h_2, r1_h_2, z1_h, q1_h_1_0, r1_h_1_0, q1_h_1_1, r1_h_1_1, z1_h_1, q1_h_1_1_0, r1_h_1_1_0, q1_h_1_1_1, r1_h_1_1_1, z1_h_1_1]
      have r2_h_0 : w2.frozen? ⟨w.heap.size, 0, none⟩ = false := by rw [kf2 _ _ (by first | assumption | (simp; done) | (simp; omega) | omega)]; simp [go_sem, q1_h_0, r1_h_0, q1_h_1, r1_h_1, q1_h_2, r1_h_2, z1_h, q1_h_1_0, r1_h_1_0, q1_h_1_1, r1_h_1_1, z1_h_1, q1_h_1_1_0, r1_h_1_1_0, q1_h_1_1_1, r1_h_1_1_1, z1_h_1_1]
      have q2_h_1 : w2.cell? ⟨w.heap.size, 1, none⟩ = some (.int .i64 s) := by rw [kc2 _ _ (by first | assumption | (simp; done) | (simp; omega) | omega)]; simp [go_sem, q1_h_0, r1_h_0, q1_h_1, r1_h_1, q1_h_2, r1_h_2, z1_h, q1_h_1_0, r1_h_1_0, q1_h_1_1, r1_h_1_1, z1_h_1, q1_h_1_1_0, r1_h_1_1_0, q1_h_1_1_1, r1_h_1_1_1, z1_h_1_1]
      have r2_h_1 : w2.frozen? ⟨w.heap.size, 1, none⟩ = false := by rw [kf2 _ _ (by first | assumption | (simp; done) | (simp; omega) | omega)]; simp [go_sem, q1_h_0, r1_h_0, q1_h_1, r1_h_1, q1_h_2, r1_h_2, z1_h, q1_h_1_0, r1_h_1_0, q1_h_1_1, r1_h_1_1, z1_h_1, q1_h_1_1_0, r1_h_1_1_0, q1_h_1_1_1, r1_h_1_1_1, z1_h_1_1]
      have q2_h_2 : w2.cell? ⟨w.heap.size, 2, none⟩ = some (.int .i64 v) := by rw [kc2 _ _ (by first | assumption | (simp; done) | (simp; omega) | omega)]; simp [go_sem, q1_h_0, r1_h_0, q1_h_1, r1_h_1, q1_h_2, r1_h_2, z1_h, q1_h_1_0, r1_h_1_0, q1_h_1_1, r1_h_1_1, z1_h_1, q1_h_1_1_0, r1_h_1_1_0, q1_h_1_1_1, r1_h_1_1_1, z1_h_1_1]
      have r2_h_2 : w2.frozen? ⟨w.heap.size, 2, none⟩ = false := by rw [kf2 _ _ (by first | assumption | (simp; done) | (simp; omega) | omega)]; simp [go_sem, q1_h_0, r1_h_0, q1_h_1, r1_h_1, q1_h_2, r1_h_2, z1_h, q1_h_1_0, r1_h_1_0, q1_h_1_1, r1_h_1_1, z1_h_1, q1_h_1_1_0, r1_h_1_1_0, q1_h_1_1_1, r1_h_1_1_1, z1_h_1_1]
      have z2_h : w.heap.size < w2.heap.size := kz2 _ (by first | assumption | (simp; done) | (simp; omega) | omega)
      have q2_h_1_0 : w2.cell? ⟨w.heap.size + 1, 0, none⟩ = some (.int .i64 x) := by rw [kc2 _ _ (by first | assumption | (simp; done) | (simp; omega) | omega)]; simp [go_sem, q1_h_0, r1_h_0, q1_h_1, r1_h_1, q1_h_2, r1_h_2, z1_h, q1_h_1_0, r1_h_1_0, q1_h_1_1, r1_h_1_1, z1_h_1, q1_h_1_1_0, r1_h_1_1_0, q1_h_1_1_1, r1_h_1_1_1, z1_h_1_1]
      have r2_h_1_0 : w2.frozen? ⟨w.heap.size + 1, 0, none⟩ = false := by rw [kf2 _ _ (by first | assumption | (simp; done) | (simp; omega) | omega)]; simp [go_sem, q1_h_0, r1_h_0, q1_h_1, r1_h_1, q1_h_2, r1_h_2, z1_h, q1_h_1_0, r1_h_1_0, q1_h_1_1, r1_h_1_1, z1_h_1, q1_h_1_1_0, r1_h_1_1_0, q1_h_1_1_1, r1_h_1_1_1, z1_h_1_1]
      have q2_h_1_1 : w2.cell? ⟨w.heap.size + 1, 1, none⟩ = some (.int .i64 y) := by rw [kc2 _ _ (by first | assumption | (simp; done) | (simp; omega) | omega)]; simp [go_sem, q1_h_0, r1_h_0, q1_h_1, r1_h_1, q1_h_2, r1_h_2, z1_h, q1_h_1_0, r1_h_1_0, q1_h_1_1, r1_h_1_1, z1_h_1, q1_h_1_1_0, r1_h_1_1_0, q1_h_1_1_1, r1_h_1_1_1, z1_h_1_1]
      have r2_h_1_1 : w2.frozen? ⟨w.heap.size + 1, 1, none⟩ = false := by rw [kf2 _ _ (by first | assumption | (simp; done) | (simp; omega) | omega)]; simp [go_sem, q1_h_0, r1_h_0, q1_h_1, r1_h_1, q1_h_2, r1_h_2, z1_h, q1_h_1_0, r1_h_1_0, q1_h_1_1, r1_h_1_1, z1_h_1, q1_h_1_1_0, r1_h_1_1_0, q1_h_1_1_1, r1_h_1_1_1, z1_h_1_1]
      have z2_h_1 : w.heap.size + 1 < w2.heap.size := kz2 _ (by first | assumption | (simp; done) | (simp; omega) | omega)
      have q2_h_1_1_0 : w2.cell? ⟨w.heap.size + 1 + 1, 0, none⟩ = some (.int .i64 0) := by rw [kc2 _ _ (by first | assumption | (simp; done) | (simp; omega) | omega)]; simp [go_sem, q1_h_0, r1_h_0, q1_h_1, r1_h_1, q1_h_2, r1_h_2, z1_h, q1_h_1_0, r1_h_1_0, q1_h_1_1, r1_h_1_1, z1_h_1, q1_h_1_1_0, r1_h_1_1_0, q1_h_1_1_1, r1_h_1_1_1, z1_h_1_1]
      have r2_h_1_1_0 : w2.frozen? ⟨w.heap.size + 1 + 1, 0, none⟩ = false := by rw [kf2 _ _ (by first | assumption | (simp; done) | (simp; omega) | omega)]; simp [go_sem, q1_h_0, r1_h_0, q1_h_1, r1_h_1, q1_h_2, r1_h_2, z1_h, q1_h_1_0, r1_h_1_0, q1_h_1_1, r1_h_1_1, z1_h_1, q1_h_1_1_0, r1_h_1_1_0, q1_h_1_1_1, r1_h_1_1_1, z1_h_1_1]
      have q2_h_1_1_1 : w2.cell? ⟨w.heap.size + 1 + 1, 1, none⟩ = some (.int .i64 0) := by rw [kc2 _ _ (by first | assumption | (simp; done) | (simp; omega) | omega)]; simp [go_sem, q1_h_0, r1_h_0, q1_h_1, r1_h_1, q1_h_2, r1_h_2, z1_h, q1_h_1_0, r1_h_1_0, q1_h_1_1, r1_h_1_1, z1_h_1, q1_h_1_1_0, r1_h_1_1_0, q1_h_1_1_1, r1_h_1_1_1, z1_h_1_1]
      have r2_h_1_1_1 : w2.frozen? ⟨w.heap.size + 1 + 1, 1, none⟩ = false := by rw [kf2 _ _ (by first | assumption | (simp; done) | (simp; omega) | omega)]; simp [go_sem, q1_h_0, r1_h_0, q1_h_1, r1_h_1, q1_h_2, r1_h_2, z1_h, q1_h_1_0, r1_h_1_0, q1_h_1_1, r1_h_1_1, z1_h_1, q1_h_1_1_0, r1_h_1_1_0, q1_h_1_1_1, r1_h_1_1_1, z1_h_1_1]
      have z2_h_1_1 : w.heap.size + 1 + 1 < w2.heap.size := kz2 _ (by first | assumption | (simp; done) | (simp; omega) | omega)
      clear kc2 kf2 kz2 ky2 kx2 kv2 ku2 hb2 q1_h_0 r1_h_0 q1_h_1 r1_h_1 q1_h_2 r1_h_2 z1_h q1_h_1_0 r1_h_1_0 q1_h_1_1 r1_h_1_1 z1_h_1 q1_h_1_1_0 r1_h_1_1_0 q1_h_1_1_1 r1_h_1_1_1 z1_h_1_1
      (go_wp2_with fail; refine (HP.out _).mono ?_; rintro e w3 ⟨rfl, hb3⟩; (have ha3 : Below w.heap.size w w3 := by (repeat (first | with_reducible exact Below.refl _ _ | with_reducible assumption | with_reducible refine balloc ?_ _ | with_reducible refine bdrew ?_ | with_reducible refine below_drewN ?_ _ | with_reducible refine bset ?_ ?_ _ | with_reducible exact Nat.le_refl _ | with_reducible refine bsize ?_ | (dsimp only; refine Nat.le_trans ?_ (Nat.le_add_right _ _)) | with_reducible refine Nat.le_trans ?_ (Nat.le_add_right _ _) | (with_reducible refine bstep ?_ (by assumption))))); obtain ⟨kc3, kf3, kz3, ky3, kx3, kv3, ku3⟩ := bcell hb3)
      have q3_h_1_1_0 : w3.cell? ⟨w.heap.size + 1 + 1, 0, none⟩ = some (.int .i64 0) := by rw [kc3 _ _ (by first | assumption | (simp; done) | (simp; omega) | omega)]; simp [go_sem, q2_h_0, r2_h_0, q2_h_1, r2_h_1, q2_h_2, r2_h_2, z2_h, q2_h_1_0, r2_h_1_0, q2_h_1_1, r2_h_1_1, z2_h_1, q2_h_1_1_0, r2_h_1_1_0, q2_h_1_1_1, r2_h_1_1_1, z2_h_1_1]
      have r3_h_1_1_0 : w3.frozen? ⟨w.heap.size + 1 + 1, 0, none⟩ = false := by rw [kf3 _ _ (by first | assumption | (simp; done) | (simp; omega) | omega)]; simp [go_sem, q2_h_0, r2_h_0, q2_h_1, r2_h_1, q2_h_2, r2_h_2, z2_h, q2_h_1_0, r2_h_1_0, q2_h_1_1, r2_h_1_1, z2_h_1, q2_h_1_1_0, r2_h_1_1_0, q2_h_1_1_1, r2_h_1_1_1, z2_h_1_1]
      have q3_h_1_1_1 : w3.cell? ⟨w.heap.size + 1 + 1, 1, none⟩ = some (.int .i64 0) := by rw [kc3 _ _ (by first | assumption | (simp; done) | (simp; omega) | omega)]; simp [go_sem, q2_h_0, r2_h_0, q2_h_1, r2_h_1, q2_h_2, r2_h_2, z2_h, q2_h_1_0, r2_h_1_0, q2_h_1_1, r2_h_1_1, z2_h_1, q2_h_1_1_0, r2_h_1_1_0, q2_h_1_1_1, r2_h_1_1_1, z2_h_1_1]
      have r3_h_1_1_1 : w3.frozen? ⟨w.heap.size + 1 + 1, 1, none⟩ = false := by rw [kf3 _ _ (by first | assumption | (simp; done) | (simp; omega) | omega)]; simp [go_sem, q2_h_0, r2_h_0, q2_h_1, r2_h_1, q2_h_2, r2_h_2, z2_h, q2_h_1_0, r2_h_1_0, q2_h_1_1, r2_h_1_1, z2_h_1, q2_h_1_1_0, r2_h_1_1_0, q2_h_1_1_1, r2_h_1_1_1, z2_h_1_1]
      have z3_h_1_1 : w.heap.size + 1 + 1 < w3.heap.size := kz3 _ (by first | assumption | (simp; done) | (simp; omega) | omega)
      clear kc3 kf3 kz3 ky3 kx3 kv3 ku3 hb3 q2_h_0 r2_h_0 q2_h_1 r2_h_1 q2_h_2 r2_h_2 z2_h q2_h_1_0 r2_h_1_0 q2_h_1_1 r2_h_1_1 z2_h_1 q2_h_1_1_0 r2_h_1_1_0 q2_h_1_1_1 r2_h_1_1_1 z2_h_1_1
      go_wp2
      refine bodyPost_ret (v := .tuple #[.agg #[.int .i64 R1, .int .i64 R2], .bool R3]) (by simp only [results, Try.results20]; go_simp) rfl ⟨rfl, ?_⟩
      (repeat (first | with_reducible exact Below.refl _ _ | with_reducible assumption | with_reducible refine balloc ?_ _ | with_reducible refine bdrew ?_ | with_reducible refine below_drewN ?_ _ | with_reducible refine bset ?_ ?_ _ | with_reducible exact Nat.le_refl _ | with_reducible refine bsize ?_ | (dsimp only; refine Nat.le_trans ?_ (Nat.le_add_right _ _)) | with_reducible refine Nat.le_trans ?_ (Nat.le_add_right _ _) | (with_reducible refine bstep ?_ (by assumption))))
set_option maxHeartbeats 3200000 in
theorem place_spec8 (f s v x y : Int) (b2 : -9223372036854775808 ≤ v ∧ v ≤ 9223372036854775807) (b3 : -9223372036854775808 ≤ x ∧ x ≤ 9223372036854775807) (b4 : -9223372036854775808 ≤ y ∧ y ≤ 9223372036854775807) (w : World) :
    Calls Try.prog 18 #[.agg #[.int .i64 f, .int .i64 s, .int .i64 v], .agg #[.int .i64 x, .int .i64 y]] w fun e w' => e = .returned (.tuple #[.agg #[.int .i64 (twoN (paK f s v x y) (cpN f s v x y) y), .int .i64 (twoD (paK f s v x y) (cpN f s v x y) y)], .bool (twoB (paK f s v x y) (cpN f s v x y) y)]) ∧ Below w.heap.size w w' := by
  have HC := Lib.hid (fun W => good_cav f s v W)
  have HT := Lib.hid (fun W => good_spec x y W)
  cases h1 : crB f s v
  · obtain ⟨e1, e2, e3⟩ := nolow8 (paK f s v x y) (cpN f s v x y) y (by simp [paK, h1])
    rw [e1, e2, e3]; clear e1 e2 e3
    rw [h1] at HC
    go_enter Try.func18, Try.ntmps18
    (go_wp2_with fail; refine (HC.out _).mono ?_; rintro e w1 ⟨rfl, hb1⟩; have ha1 := hb1; obtain ⟨kc1, kf1, kz1, ky1, kx1, kv1, ku1⟩ := bcell hb1)
    go_wp2
    refine bodyPost_ret (v := .tuple #[.agg #[.int .i64 0, .int .i64 0], .bool false]) (by simp only [results, Try.results18]; go_simp) rfl ⟨rfl, ?_⟩
    (repeat (first | with_reducible exact Below.refl _ _ | with_reducible assumption | with_reducible refine balloc ?_ _ | with_reducible refine bdrew ?_ | with_reducible refine below_drewN ?_ _ | with_reducible refine bset ?_ ?_ _ | with_reducible exact Nat.le_refl _ | with_reducible refine bsize ?_ | (dsimp only; refine Nat.le_trans ?_ (Nat.le_add_right _ _)) | with_reducible refine Nat.le_trans ?_ (Nat.le_add_right _ _) | (with_reducible refine bstep ?_ (by assumption))))
  · rw [h1] at HC
    cases h2 : amB x y
    · obtain ⟨e1, e2, e3⟩ := nolow8 (paK f s v x y) (cpN f s v x y) y (by simp [paK, tmB, h2])
      rw [e1, e2, e3]; clear e1 e2 e3
      rw [h2] at HT
      go_enter Try.func18, Try.ntmps18
      (go_wp2_with fail; refine (HC.out _).mono ?_; rintro e w1 ⟨rfl, hb1⟩; (have ha1 : Below w.heap.size w w1 := by (repeat (first | with_reducible exact Below.refl _ _ | with_reducible assumption | with_reducible refine balloc ?_ _ | with_reducible refine bdrew ?_ | with_reducible refine below_drewN ?_ _ | with_reducible refine bset ?_ ?_ _ | with_reducible exact Nat.le_refl _ | with_reducible refine bsize ?_ | (dsimp only; refine Nat.le_trans ?_ (Nat.le_add_right _ _)) | with_reducible refine Nat.le_trans ?_ (Nat.le_add_right _ _) | (with_reducible refine bstep ?_ (by assumption))))); obtain ⟨kc1, kf1, kz1, ky1, kx1, kv1, ku1⟩ := bcell hb1)
      have q1_h_0 : w1.cell? ⟨w.heap.size, 0, none⟩ = some (.int .i64 f) := by rw [kc1 _ _ (by first | assumption | (simp; done) | (simp; omega) | omega)]; simp [go_sem]
      have r1_h_0 : w1.frozen? ⟨w.heap.size, 0, none⟩ = false := by rw [kf1 _ _ (by first | assumption | (simp; done) | (simp; omega) | omega)]; simp [go_sem]
      have q1_h_1 : w1.cell? ⟨w.heap.size, 1, none⟩ = some (.int .i64 s) := by rw [kc1 _ _ (by first | assumption | (simp; done) | (simp; omega) | omega)]; simp [go_sem]
      have r1_h_1 : w1.frozen? ⟨w.heap.size, 1, none⟩ = false := by rw [kf1 _ _ (by first | assumption | (simp; done) | (simp; omega) | omega)]; simp [go_sem]
      have q1_h_2 : w1.cell? ⟨w.heap.size, 2, none⟩ = some (.int .i64 v) := by rw [kc1 _ _ (by first | assumption | (simp; done) | (simp; omega) | omega)]; simp [go_sem]
      have r1_h_2 : w1.frozen? ⟨w.heap.size, 2, none⟩ = false := by rw [kf1 _ _ (by first | assumption | (simp; done) | (simp; omega) | omega)]; simp [go_sem]
      have z1_h : w.heap.size < w1.heap.size := kz1 _ (by first | assumption | (simp; done) | (simp; omega) | omega)
      have q1_h_1_0 : w1.cell? ⟨w.heap.size + 1, 0, none⟩ = some (.int .i64 x) := by rw [kc1 _ _ (by first | assumption | (simp; done) | (simp; omega) | omega)]; simp [go_sem]
      have r1_h_1_0 : w1.frozen? ⟨w.heap.size + 1, 0, none⟩ = false := by rw [kf1 _ _ (by first | assumption | (simp; done) | (simp; omega) | omega)]; simp [go_sem]
      have q1_h_1_1 : w1.cell? ⟨w.heap.size + 1, 1, none⟩ = some (.int .i64 y) := by rw [kc1 _ _ (by first | assumption | (simp; done) | (simp; omega) | omega)]; simp [go_sem]
      have r1_h_1_1 : w1.frozen? ⟨w.heap.size + 1, 1, none⟩ = false := by rw [kf1 _ _ (by first | assumption | (simp; done) | (simp; omega) | omega)]; simp [go_sem]
      have z1_h_1 : w.heap.size + 1 < w1.heap.size := kz1 _ (by first | assumption | (simp; done) | (simp; omega) | omega)
      have q1_h_1_1_0 : w1.cell? ⟨w.heap.size + 1 + 1, 0, none⟩ = some (.int .i64 0) := by rw [kc1 _ _ (by first | assumption | (simp; done) | (simp; omega) | omega)]; simp [go_sem]
      have r1_h_1_1_0 : w1.frozen? ⟨w.heap.size + 1 + 1, 0, none⟩ = false := by rw [kf1 _ _ (by first | assumption | (simp; done) | (simp; omega) | omega)]; simp [go_sem]
      have q1_h_1_1_1 : w1.cell? ⟨w.heap.size + 1 + 1, 1, none⟩ = some (.int .i64 0) := by rw [kc1 _ _ (by first | assumption | (simp; done) | (simp; omega) | omega)]; simp [go_sem]
      have r1_h_1_1_1 : w1.frozen? ⟨w.heap.size + 1 + 1, 1, none⟩ = false := by rw [kf1 _ _ (by first | assumption | (simp; done) | (simp; omega) | omega)]; simp [go_sem]
      have z1_h_1_1 : w.heap.size + 1 + 1 < w1.heap.size := kz1 _ (by first | assumption | (simp; done) | (simp; omega) | omega)
      clear kc1 kf1 kz1 ky1 kx1 kv1 ku1 hb1
      (go_wp2_with fail; refine (HT.out _).mono ?_; rintro e w2 ⟨rfl, hb2⟩; (have ha2 : Below w.heap.size w w2 := by (repeat (first | with_reducible exact Below.refl _ _ | with_reducible assumption | with_reducible refine balloc ?_ _ | with_reducible refine bdrew ?_ | with_reducible refine below_drewN ?_ _ | with_reducible refine bset ?_ ?_ _ | with_reducible exact Nat.le_refl _ | with_reducible refine bsize ?_ | (dsimp only; refine Nat.le_trans ?_ (Nat.le_add_right _ _)) | with_reducible refine Nat.le_trans ?_ (Nat.le_add_right _ _) | (with_reducible refine bstep ?_ (by assumption))))); obtain ⟨kc2, kf2, kz2, ky2, kx2, kv2, ku2⟩ := bcell hb2)
      have q2_h_1_1_0 : w2.cell? ⟨w.heap.size + 1 + 1, 0, none⟩ = some (.int .i64 0) := by rw [kc2 _ _ (by first | assumption | (simp; done) | (simp; omega) | omega)]; simp [go_sem, q1_h_0, r1_h_0, q1_h_1, r1_h_1, q1_h_2, r1_h_2, z1_h, q1_h_1_0, r1_h_1_0, q1_h_1_1, r1_h_1_1, z1_h_1, q1_h_1_1_0, r1_h_1_1_0, q1_h_1_1_1, r1_h_1_1_1, z1_h_1_1]
      have r2_h_1_1_0 : w2.frozen? ⟨w.heap.size + 1 + 1, 0, none⟩ = false := by rw [kf2 _ _ (by first | assumption | (simp; done) | (simp; omega) | omega)]; simp [go_sem, q1_h_0, r1_h_0, q1_h_1, r1_h_1, q1_h_2, r1_h_2, z1_h, q1_h_1_0, r1_h_1_0, q1_h_1_1, r1_h_1_1, z1_h_1, q1_h_1_1_0, r1_h_1_1_0, q1_h_1_1_1, r1_h_1_1_1, z1_h_1_1]
      have q2_h_1_1_1 : w2.cell? ⟨w.heap.size + 1 + 1, 1, none⟩ = some (.int .i64 0) := by rw [kc2 _ _ (by first | assumption | (simp; done) | (simp; omega) | omega)]; simp [go_sem, q1_h_0, r1_h_0, q1_h_1, r1_h_1, q1_h_2, r1_h_2, z1_h, q1_h_1_0, r1_h_1_0, q1_h_1_1, r1_h_1_1, z1_h_1, q1_h_1_1_0, r1_h_1_1_0, q1_h_1_1_1, r1_h_1_1_1, z1_h_1_1]
      have r2_h_1_1_1 : w2.frozen? ⟨w.heap.size + 1 + 1, 1, none⟩ = false := by rw [kf2 _ _ (by first | assumption | (simp; done) | (simp; omega) | omega)]; simp [go_sem, q1_h_0, r1_h_0, q1_h_1, r1_h_1, q1_h_2, r1_h_2, z1_h, q1_h_1_0, r1_h_1_0, q1_h_1_1, r1_h_1_1, z1_h_1, q1_h_1_1_0, r1_h_1_1_0, q1_h_1_1_1, r1_h_1_1_1, z1_h_1_1]
      have z2_h_1_1 : w.heap.size + 1 + 1 < w2.heap.size := kz2 _ (by first | assumption | (simp; done) | (simp; omega) | omega)
      clear kc2 kf2 kz2 ky2 kx2 kv2 ku2 hb2 q1_h_0 r1_h_0 q1_h_1 r1_h_1 q1_h_2 r1_h_2 z1_h q1_h_1_0 r1_h_1_0 q1_h_1_1 r1_h_1_1 z1_h_1 q1_h_1_1_0 r1_h_1_1_0 q1_h_1_1_1 r1_h_1_1_1 z1_h_1_1
      go_wp2
      refine bodyPost_ret (v := .tuple #[.agg #[.int .i64 0, .int .i64 0], .bool false]) (by simp only [results, Try.results18]; go_simp) rfl ⟨rfl, ?_⟩
      (repeat (first | with_reducible exact Below.refl _ _ | with_reducible assumption | with_reducible refine balloc ?_ _ | with_reducible refine bdrew ?_ | with_reducible refine below_drewN ?_ _ | with_reducible refine bset ?_ ?_ _ | with_reducible exact Nat.le_refl _ | with_reducible refine bsize ?_ | (dsimp only; refine Nat.le_trans ?_ (Nat.le_add_right _ _)) | with_reducible refine Nat.le_trans ?_ (Nat.le_add_right _ _) | (with_reducible refine bstep ?_ (by assumption))))
    · rw [h2] at HT
      obtain ⟨a1, a2, a3, a4⟩ := am_of x y h2
      by_cases h3 : 1000 < y
      · obtain ⟨e1, e2, e3⟩ := nolow8 (paK f s v x y) (cpN f s v x y) y (by simp [paK, tmB]; omega)
        rw [e1, e2, e3]; clear e1 e2 e3
        go_enter Try.func18, Try.ntmps18
        (go_wp2_with fail; refine (HC.out _).mono ?_; rintro e w1 ⟨rfl, hb1⟩; (have ha1 : Below w.heap.size w w1 := by (repeat (first | with_reducible exact Below.refl _ _ | with_reducible assumption | with_reducible refine balloc ?_ _ | with_reducible refine bdrew ?_ | with_reducible refine below_drewN ?_ _ | with_reducible refine bset ?_ ?_ _ | with_reducible exact Nat.le_refl _ | with_reducible refine bsize ?_ | (dsimp only; refine Nat.le_trans ?_ (Nat.le_add_right _ _)) | with_reducible refine Nat.le_trans ?_ (Nat.le_add_right _ _) | (with_reducible refine bstep ?_ (by assumption))))); obtain ⟨kc1, kf1, kz1, ky1, kx1, kv1, ku1⟩ := bcell hb1)
        have q1_h_0 : w1.cell? ⟨w.heap.size, 0, none⟩ = some (.int .i64 f) := by rw [kc1 _ _ (by first | assumption | (simp; done) | (simp; omega) | omega)]; simp [go_sem]
        have r1_h_0 : w1.frozen? ⟨w.heap.size, 0, none⟩ = false := by rw [kf1 _ _ (by first | assumption | (simp; done) | (simp; omega) | omega)]; simp [go_sem]
        have q1_h_1 : w1.cell? ⟨w.heap.size, 1, none⟩ = some (.int .i64 s) := by rw [kc1 _ _ (by first | assumption | (simp; done) | (simp; omega) | omega)]; simp [go_sem]
        have r1_h_1 : w1.frozen? ⟨w.heap.size, 1, none⟩ = false := by rw [kf1 _ _ (by first | assumption | (simp; done) | (simp; omega) | omega)]; simp [go_sem]
        have q1_h_2 : w1.cell? ⟨w.heap.size, 2, none⟩ = some (.int .i64 v) := by rw [kc1 _ _ (by first | assumption | (simp; done) | (simp; omega) | omega)]; simp [go_sem]
        have r1_h_2 : w1.frozen? ⟨w.heap.size, 2, none⟩ = false := by rw [kf1 _ _ (by first | assumption | (simp; done) | (simp; omega) | omega)]; simp [go_sem]
        have z1_h : w.heap.size < w1.heap.size := kz1 _ (by first | assumption | (simp; done) | (simp; omega) | omega)
        have q1_h_1_0 : w1.cell? ⟨w.heap.size + 1, 0, none⟩ = some (.int .i64 x) := by rw [kc1 _ _ (by first | assumption | (simp; done) | (simp; omega) | omega)]; simp [go_sem]
        have r1_h_1_0 : w1.frozen? ⟨w.heap.size + 1, 0, none⟩ = false := by rw [kf1 _ _ (by first | assumption | (simp; done) | (simp; omega) | omega)]; simp [go_sem]
        have q1_h_1_1 : w1.cell? ⟨w.heap.size + 1, 1, none⟩ = some (.int .i64 y) := by rw [kc1 _ _ (by first | assumption | (simp; done) | (simp; omega) | omega)]; simp [go_sem]
        have r1_h_1_1 : w1.frozen? ⟨w.heap.size + 1, 1, none⟩ = false := by rw [kf1 _ _ (by first | assumption | (simp; done) | (simp; omega) | omega)]; simp [go_sem]
        have z1_h_1 : w.heap.size + 1 < w1.heap.size := kz1 _ (by first | assumption | (simp; done) | (simp; omega) | omega)
        have q1_h_1_1_0 : w1.cell? ⟨w.heap.size + 1 + 1, 0, none⟩ = some (.int .i64 0) := by rw [kc1 _ _ (by first | assumption | (simp; done) | (simp; omega) | omega)]; simp [go_sem]
        have r1_h_1_1_0 : w1.frozen? ⟨w.heap.size + 1 + 1, 0, none⟩ = false := by rw [kf1 _ _ (by first | assumption | (simp; done) | (simp; omega) | omega)]; simp [go_sem]
        have q1_h_1_1_1 : w1.cell? ⟨w.heap.size + 1 + 1, 1, none⟩ = some (.int .i64 0) := by rw [kc1 _ _ (by first | assumption | (simp; done) | (simp; omega) | omega)]; simp [go_sem]
        have r1_h_1_1_1 : w1.frozen? ⟨w.heap.size + 1 + 1, 1, none⟩ = false := by rw [kf1 _ _ (by first | assumption | (simp; done) | (simp; omega) | omega)]; simp [go_sem]
        have z1_h_1_1 : w.heap.size + 1 + 1 < w1.heap.size := kz1 _ (by first | assumption | (simp; done) | (simp; omega) | omega)
        clear kc1 kf1 kz1 ky1 kx1 kv1 ku1 hb1
        (go_wp2_with fail; refine (HT.out _).mono ?_; rintro e w2 ⟨rfl, hb2⟩; (have ha2 : Below w.heap.size w w2 := by (repeat (first | with_reducible exact Below.refl _ _ | with_reducible assumption | with_reducible refine balloc ?_ _ | with_reducible refine bdrew ?_ | with_reducible refine below_drewN ?_ _ | with_reducible refine bset ?_ ?_ _ | with_reducible exact Nat.le_refl _ | with_reducible refine bsize ?_ | (dsimp only; refine Nat.le_trans ?_ (Nat.le_add_right _ _)) | with_reducible refine Nat.le_trans ?_ (Nat.le_add_right _ _) | (with_reducible refine bstep ?_ (by assumption))))); obtain ⟨kc2, kf2, kz2, ky2, kx2, kv2, ku2⟩ := bcell hb2)
        have q2_h_1_0 : w2.cell? ⟨w.heap.size + 1, 0, none⟩ = some (.int .i64 x) := by rw [kc2 _ _ (by first | assumption | (simp; done) | (simp; omega) | omega)]; simp [go_sem, q1_h_0, r1_h_0, q1_h_1, r1_h_1, q1_h_2, r1_h_2, z1_h, q1_h_1_0, r1_h_1_0, q1_h_1_1, r1_h_1_1, z1_h_1, q1_h_1_1_0, r1_h_1_1_0, q1_h_1_1_1, r1_h_1_1_1, z1_h_1_1]
        have r2_h_1_0 : w2.frozen? ⟨w.heap.size + 1, 0, none⟩ = false := by rw [kf2 _ _ (by first | assumption | (simp; done) | (simp; omega) | omega)]; simp [go_sem, q1_h_0, r1_h_0, q1_h_1, r1_h_1, q1_h_2, r1_h_2, z1_h, q1_h_1_0, r1_h_1_0, q1_h_1_1, r1_h_1_1, z1_h_1, q1_h_1_1_0, r1_h_1_1_0, q1_h_1_1_1, r1_h_1_1_1, z1_h_1_1]
        have q2_h_1_1 : w2.cell? ⟨w.heap.size + 1, 1, none⟩ = some (.int .i64 y) := by rw [kc2 _ _ (by first | assumption | (simp; done) | (simp; omega) | omega)]; simp [go_sem, q1_h_0, r1_h_0, q1_h_1, r1_h_1, q1_h_2, r1_h_2, z1_h, q1_h_1_0, r1_h_1_0, q1_h_1_1, r1_h_1_1, z1_h_1, q1_h_1_1_0, r1_h_1_1_0, q1_h_1_1_1, r1_h_1_1_1, z1_h_1_1]
        have r2_h_1_1 : w2.frozen? ⟨w.heap.size + 1, 1, none⟩ = false := by rw [kf2 _ _ (by first | assumption | (simp; done) | (simp; omega) | omega)]; simp [go_sem, q1_h_0, r1_h_0, q1_h_1, r1_h_1, q1_h_2, r1_h_2, z1_h, q1_h_1_0, r1_h_1_0, q1_h_1_1, r1_h_1_1, z1_h_1, q1_h_1_1_0, r1_h_1_1_0, q1_h_1_1_1, r1_h_1_1_1, z1_h_1_1]
        have z2_h_1 : w.heap.size + 1 < w2.heap.size := kz2 _ (by first | assumption | (simp; done) | (simp; omega) | omega)
        have q2_h_1_1_0 : w2.cell? ⟨w.heap.size + 1 + 1, 0, none⟩ = some (.int .i64 0) := by rw [kc2 _ _ (by first | assumption | (simp; done) | (simp; omega) | omega)]; simp [go_sem, q1_h_0, r1_h_0, q1_h_1, r1_h_1, q1_h_2, r1_h_2, z1_h, q1_h_1_0, r1_h_1_0, q1_h_1_1, r1_h_1_1, z1_h_1, q1_h_1_1_0, r1_h_1_1_0, q1_h_1_1_1, r1_h_1_1_1, z1_h_1_1]
        have r2_h_1_1_0 : w2.frozen? ⟨w.heap.size + 1 + 1, 0, none⟩ = false := by rw [kf2 _ _ (by first | assumption | (simp; done) | (simp; omega) | omega)]; simp [go_sem, q1_h_0, r1_h_0, q1_h_1, r1_h_1, q1_h_2, r1_h_2, z1_h, q1_h_1_0, r1_h_1_0, q1_h_1_1, r1_h_1_1, z1_h_1, q1_h_1_1_0, r1_h_1_1_0, q1_h_1_1_1, r1_h_1_1_1, z1_h_1_1]
        have q2_h_1_1_1 : w2.cell? ⟨w.heap.size + 1 + 1, 1, none⟩ = some (.int .i64 0) := by rw [kc2 _ _ (by first | assumption | (simp; done) | (simp; omega) | omega)]; simp [go_sem, q1_h_0, r1_h_0, q1_h_1, r1_h_1, q1_h_2, r1_h_2, z1_h, q1_h_1_0, r1_h_1_0, q1_h_1_1, r1_h_1_1, z1_h_1, q1_h_1_1_0, r1_h_1_1_0, q1_h_1_1_1, r1_h_1_1_1, z1_h_1_1]
        have r2_h_1_1_1 : w2.frozen? ⟨w.heap.size + 1 + 1, 1, none⟩ = false := by rw [kf2 _ _ (by first | assumption | (simp; done) | (simp; omega) | omega)]; simp [go_sem, q1_h_0, r1_h_0, q1_h_1, r1_h_1, q1_h_2, r1_h_2, z1_h, q1_h_1_0, r1_h_1_0, q1_h_1_1, r1_h_1_1, z1_h_1, q1_h_1_1_0, r1_h_1_1_0, q1_h_1_1_1, r1_h_1_1_1, z1_h_1_1]
        have z2_h_1_1 : w.heap.size + 1 + 1 < w2.heap.size := kz2 _ (by first | assumption | (simp; done) | (simp; omega) | omega)
        clear kc2 kf2 kz2 ky2 kx2 kv2 ku2 hb2 q1_h_0 r1_h_0 q1_h_1 r1_h_1 q1_h_2 r1_h_2 z1_h q1_h_1_0 r1_h_1_0 q1_h_1_1 r1_h_1_1 z1_h_1 q1_h_1_1_0 r1_h_1_1_0 q1_h_1_1_1 r1_h_1_1_1 z1_h_1_1
        go_wp2
        refine bodyPost_ret (v := .tuple #[.agg #[.int .i64 0, .int .i64 0], .bool false]) (by simp only [results, Try.results18]; go_simp) rfl ⟨rfl, ?_⟩
        (repeat (first | with_reducible exact Below.refl _ _ | with_reducible assumption | with_reducible refine balloc ?_ _ | with_reducible refine bdrew ?_ | with_reducible refine below_drewN ?_ _ | with_reducible refine bset ?_ ?_ _ | with_reducible exact Nat.le_refl _ | with_reducible refine bsize ?_ | (dsimp only; refine Nat.le_trans ?_ (Nat.le_add_right _ _)) | with_reducible refine Nat.le_trans ?_ (Nat.le_add_right _ _) | (with_reducible refine bstep ?_ (by assumption))))
      · by_cases h4 : 1000 * y < x
        · obtain ⟨e1, e2, e3⟩ := nolow8 (paK f s v x y) (cpN f s v x y) y (by simp [paK, tmB]; omega)
          rw [e1, e2, e3]; clear e1 e2 e3
          go_enter Try.func18, Try.ntmps18
          (go_wp2_with fail; refine (HC.out _).mono ?_; rintro e w1 ⟨rfl, hb1⟩; (have ha1 : Below w.heap.size w w1 := by (repeat (first | with_reducible exact Below.refl _ _ | with_reducible assumption | with_reducible refine balloc ?_ _ | with_reducible refine bdrew ?_ | with_reducible refine below_drewN ?_ _ | with_reducible refine bset ?_ ?_ _ | with_reducible exact Nat.le_refl _ | with_reducible refine bsize ?_ | (dsimp only; refine Nat.le_trans ?_ (Nat.le_add_right _ _)) | with_reducible refine Nat.le_trans ?_ (Nat.le_add_right _ _) | (with_reducible refine bstep ?_ (by assumption))))); obtain ⟨kc1, kf1, kz1, ky1, kx1, kv1, ku1⟩ := bcell hb1)
          have q1_h_0 : w1.cell? ⟨w.heap.size, 0, none⟩ = some (.int .i64 f) := by rw [kc1 _ _ (by first | assumption | (simp; done) | (simp; omega) | omega)]; simp [go_sem]
          have r1_h_0 : w1.frozen? ⟨w.heap.size, 0, none⟩ = false := by rw [kf1 _ _ (by first | assumption | (simp; done) | (simp; omega) | omega)]; simp [go_sem]
          have q1_h_1 : w1.cell? ⟨w.heap.size, 1, none⟩ = some (.int .i64 s) := by rw [kc1 _ _ (by first | assumption | (simp; done) | (simp; omega) | omega)]; simp [go_sem]
          have r1_h_1 : w1.frozen? ⟨w.heap.size, 1, none⟩ = false := by rw [kf1 _ _ (by first | assumption | (simp; done) | (simp; omega) | omega)]; simp [go_sem]
          have q1_h_2 : w1.cell? ⟨w.heap.size, 2, none⟩ = some (.int .i64 v) := by rw [kc1 _ _ (by first | assumption | (simp; done) | (simp; omega) | omega)]; simp [go_sem]
          have r1_h_2 : w1.frozen? ⟨w.heap.size, 2, none⟩ = false := by rw [kf1 _ _ (by first | assumption | (simp; done) | (simp; omega) | omega)]; simp [go_sem]
          have z1_h : w.heap.size < w1.heap.size := kz1 _ (by first | assumption | (simp; done) | (simp; omega) | omega)
          have q1_h_1_0 : w1.cell? ⟨w.heap.size + 1, 0, none⟩ = some (.int .i64 x) := by rw [kc1 _ _ (by first | assumption | (simp; done) | (simp; omega) | omega)]; simp [go_sem]
          have r1_h_1_0 : w1.frozen? ⟨w.heap.size + 1, 0, none⟩ = false := by rw [kf1 _ _ (by first | assumption | (simp; done) | (simp; omega) | omega)]; simp [go_sem]
          have q1_h_1_1 : w1.cell? ⟨w.heap.size + 1, 1, none⟩ = some (.int .i64 y) := by rw [kc1 _ _ (by first | assumption | (simp; done) | (simp; omega) | omega)]; simp [go_sem]
          have r1_h_1_1 : w1.frozen? ⟨w.heap.size + 1, 1, none⟩ = false := by rw [kf1 _ _ (by first | assumption | (simp; done) | (simp; omega) | omega)]; simp [go_sem]
          have z1_h_1 : w.heap.size + 1 < w1.heap.size := kz1 _ (by first | assumption | (simp; done) | (simp; omega) | omega)
          have q1_h_1_1_0 : w1.cell? ⟨w.heap.size + 1 + 1, 0, none⟩ = some (.int .i64 0) := by rw [kc1 _ _ (by first | assumption | (simp; done) | (simp; omega) | omega)]; simp [go_sem]
          have r1_h_1_1_0 : w1.frozen? ⟨w.heap.size + 1 + 1, 0, none⟩ = false := by rw [kf1 _ _ (by first | assumption | (simp; done) | (simp; omega) | omega)]; simp [go_sem]
          have q1_h_1_1_1 : w1.cell? ⟨w.heap.size + 1 + 1, 1, none⟩ = some (.int .i64 0) := by rw [kc1 _ _ (by first | assumption | (simp; done) | (simp; omega) | omega)]; simp [go_sem]
          have r1_h_1_1_1 : w1.frozen? ⟨w.heap.size + 1 + 1, 1, none⟩ = false := by rw [kf1 _ _ (by first | assumption | (simp; done) | (simp; omega) | omega)]; simp [go_sem]
          have z1_h_1_1 : w.heap.size + 1 + 1 < w1.heap.size := kz1 _ (by first | assumption | (simp; done) | (simp; omega) | omega)
          clear kc1 kf1 kz1 ky1 kx1 kv1 ku1 hb1
          (go_wp2_with fail; refine (HT.out _).mono ?_; rintro e w2 ⟨rfl, hb2⟩; (have ha2 : Below w.heap.size w w2 := by (repeat (first | with_reducible exact Below.refl _ _ | with_reducible assumption | with_reducible refine balloc ?_ _ | with_reducible refine bdrew ?_ | with_reducible refine below_drewN ?_ _ | with_reducible refine bset ?_ ?_ _ | with_reducible exact Nat.le_refl _ | with_reducible refine bsize ?_ | (dsimp only; refine Nat.le_trans ?_ (Nat.le_add_right _ _)) | with_reducible refine Nat.le_trans ?_ (Nat.le_add_right _ _) | (with_reducible refine bstep ?_ (by assumption))))); obtain ⟨kc2, kf2, kz2, ky2, kx2, kv2, ku2⟩ := bcell hb2)
          have q2_h_1_0 : w2.cell? ⟨w.heap.size + 1, 0, none⟩ = some (.int .i64 x) := by rw [kc2 _ _ (by first | assumption | (simp; done) | (simp; omega) | omega)]; simp [go_sem, q1_h_0, r1_h_0, q1_h_1, r1_h_1, q1_h_2, r1_h_2, z1_h, q1_h_1_0, r1_h_1_0, q1_h_1_1, r1_h_1_1, z1_h_1, q1_h_1_1_0, r1_h_1_1_0, q1_h_1_1_1, r1_h_1_1_1, z1_h_1_1]
          have r2_h_1_0 : w2.frozen? ⟨w.heap.size + 1, 0, none⟩ = false := by rw [kf2 _ _ (by first | assumption | (simp; done) | (simp; omega) | omega)]; simp [go_sem, q1_h_0, r1_h_0, q1_h_1, r1_h_1, q1_h_2, r1_h_2, z1_h, q1_h_1_0, r1_h_1_0, q1_h_1_1, r1_h_1_1, z1_h_1, q1_h_1_1_0, r1_h_1_1_0, q1_h_1_1_1, r1_h_1_1_1, z1_h_1_1]
          have q2_h_1_1 : w2.cell? ⟨w.heap.size + 1, 1, none⟩ = some (.int .i64 y) := by rw [kc2 _ _ (by first | assumption | (simp; done) | (simp; omega) | omega)]; simp [go_sem, q1_h_0, r1_h_0, q1_h_1, r1_h_1, q1_h_2, r1_h_2, z1_h, q1_h_1_0, r1_h_1_0, q1_h_1_1, r1_h_1_1, z1_h_1, q1_h_1_1_0, r1_h_1_1_0, q1_h_1_1_1, r1_h_1_1_1, z1_h_1_1]
          have r2_h_1_1 : w2.frozen? ⟨w.heap.size + 1, 1, none⟩ = false := by rw [kf2 _ _ (by first | assumption | (simp; done) | (simp; omega) | omega)]; simp [go_sem, q1_h_0, r1_h_0, q1_h_1, r1_h_1, q1_h_2, r1_h_2, z1_h, q1_h_1_0, r1_h_1_0, q1_h_1_1, r1_h_1_1, z1_h_1, q1_h_1_1_0, r1_h_1_1_0, q1_h_1_1_1, r1_h_1_1_1, z1_h_1_1]
          have z2_h_1 : w.heap.size + 1 < w2.heap.size := kz2 _ (by first | assumption | (simp; done) | (simp; omega) | omega)
          have q2_h_1_1_0 : w2.cell? ⟨w.heap.size + 1 + 1, 0, none⟩ = some (.int .i64 0) := by rw [kc2 _ _ (by first | assumption | (simp; done) | (simp; omega) | omega)]; simp [go_sem, q1_h_0, r1_h_0, q1_h_1, r1_h_1, q1_h_2, r1_h_2, z1_h, q1_h_1_0, r1_h_1_0, q1_h_1_1, r1_h_1_1, z1_h_1, q1_h_1_1_0, r1_h_1_1_0, q1_h_1_1_1, r1_h_1_1_1, z1_h_1_1]
          have r2_h_1_1_0 : w2.frozen? ⟨w.heap.size + 1 + 1, 0, none⟩ = false := by rw [kf2 _ _ (by first | assumption | (simp; done) | (simp; omega) | omega)]; simp [go_sem, q1_h_0, r1_h_0, q1_h_1, r1_h_1, q1_h_2, r1_h_2, z1_h, q1_h_1_0, r1_h_1_0, q1_h_1_1, r1_h_1_1, z1_h_1, q1_h_1_1_0, r1_h_1_1_0, q1_h_1_1_1, r1_h_1_1_1, z1_h_1_1]
          have q2_h_1_1_1 : w2.cell? ⟨w.heap.size + 1 + 1, 1, none⟩ = some (.int .i64 0) := by rw [kc2 _ _ (by first | assumption | (simp; done) | (simp; omega) | omega)]; simp [go_sem, q1_h_0, r1_h_0, q1_h_1, r1_h_1, q1_h_2, r1_h_2, z1_h, q1_h_1_0, r1_h_1_0, q1_h_1_1, r1_h_1_1, z1_h_1, q1_h_1_1_0, r1_h_1_1_0, q1_h_1_1_1, r1_h_1_1_1, z1_h_1_1]
          have r2_h_1_1_1 : w2.frozen? ⟨w.heap.size + 1 + 1, 1, none⟩ = false := by rw [kf2 _ _ (by first | assumption | (simp; done) | (simp; omega) | omega)]; simp [go_sem, q1_h_0, r1_h_0, q1_h_1, r1_h_1, q1_h_2, r1_h_2, z1_h, q1_h_1_0, r1_h_1_0, q1_h_1_1, r1_h_1_1, z1_h_1, q1_h_1_1_0, r1_h_1_1_0, q1_h_1_1_1, r1_h_1_1_1, z1_h_1_1]
          have z2_h_1_1 : w.heap.size + 1 + 1 < w2.heap.size := kz2 _ (by first | assumption | (simp; done) | (simp; omega) | omega)
          clear kc2 kf2 kz2 ky2 kx2 kv2 ku2 hb2 q1_h_0 r1_h_0 q1_h_1 r1_h_1 q1_h_2 r1_h_2 z1_h q1_h_1_0 r1_h_1_0 q1_h_1_1 r1_h_1_1 z1_h_1 q1_h_1_1_0 r1_h_1_1_0 q1_h_1_1_1 r1_h_1_1_1 z1_h_1_1
          go_wp2
          refine bodyPost_ret (v := .tuple #[.agg #[.int .i64 0, .int .i64 0], .bool false]) (by simp only [results, Try.results18]; go_simp) rfl ⟨rfl, ?_⟩
          (repeat (first | with_reducible exact Below.refl _ _ | with_reducible assumption | with_reducible refine balloc ?_ _ | with_reducible refine bdrew ?_ | with_reducible refine below_drewN ?_ _ | with_reducible refine bset ?_ ?_ _ | with_reducible exact Nat.le_refl _ | with_reducible refine bsize ?_ | (dsimp only; refine Nat.le_trans ?_ (Nat.le_add_right _ _)) | with_reducible refine Nat.le_trans ?_ (Nat.le_add_right _ _) | (with_reducible refine bstep ?_ (by assumption))))
        · rw [show paK f s v x y = true by simp [paK, tmB, h1, h2]; omega, (two_yes _ _).1, (two_yes _ _).2.1, (two_yes _ _).2.2]
          obtain ⟨f0, s0, v0⟩ := crB_yes h1
          have hx : 0 ≤ x ∧ x ≤ 10000000000 := by omega
          have hy : 1 ≤ y ∧ y ≤ 1000000 := by omega
          have hcb := cp_bd f0 s0 v0 hx hy
          have HP := Lib.hid (fun W => cvPlace_spec f s v x y hcb hx W)
          have hN : 0 ≤ cpN f s v x y ∧ cpN f s v x y ≤ 9000000000000000000 := by have := hcb.b; have := hcb.c; unfold cpN; omega
          have HM := Lib.hid (fun W => make_spec (cpN f s v x y) y hN.1 (by omega) (by omega) (by omega) W)
          clear hcb h1 h2
          generalize cpN f s v x y = N at *
          obtain ⟨R1, hR1⟩ : ∃ R, lowN N y = R := ⟨_, rfl⟩
          obtain ⟨R2, hR2⟩ : ∃ R, lowD N y = R := ⟨_, rfl⟩
          obtain ⟨R3, hR3⟩ : ∃ R, lowB N y = R := ⟨_, rfl⟩
          rw [hR1, hR2, hR3]; rw [hR1, hR2, hR3] at HM
          clear hR1 hR2 hR3
          go_enter Try.func18, Try.ntmps18
          (go_wp2_with fail; refine (HC.out _).mono ?_; rintro e w1 ⟨rfl, hb1⟩; (have ha1 : Below w.heap.size w w1 := by (repeat (first | with_reducible exact Below.refl _ _ | with_reducible assumption | with_reducible refine balloc ?_ _ | with_reducible refine bdrew ?_ | with_reducible refine below_drewN ?_ _ | with_reducible refine bset ?_ ?_ _ | with_reducible exact Nat.le_refl _ | with_reducible refine bsize ?_ | (dsimp only; refine Nat.le_trans ?_ (Nat.le_add_right _ _)) | with_reducible refine Nat.le_trans ?_ (Nat.le_add_right _ _) | (with_reducible refine bstep ?_ (by assumption))))); obtain ⟨kc1, kf1, kz1, ky1, kx1, kv1, ku1⟩ := bcell hb1)
          have q1_h_0 : w1.cell? ⟨w.heap.size, 0, none⟩ = some (.int .i64 f) := by rw [kc1 _ _ (by first | assumption | (simp; done) | (simp; omega) | omega)]; simp [go_sem]
          have r1_h_0 : w1.frozen? ⟨w.heap.size, 0, none⟩ = false := by rw [kf1 _ _ (by first | assumption | (simp; done) | (simp; omega) | omega)]; simp [go_sem]
          have q1_h_1 : w1.cell? ⟨w.heap.size, 1, none⟩ = some (.int .i64 s) := by rw [kc1 _ _ (by first | assumption | (simp; done) | (simp; omega) | omega)]; simp [go_sem]
          have r1_h_1 : w1.frozen? ⟨w.heap.size, 1, none⟩ = false := by rw [kf1 _ _ (by first | assumption | (simp; done) | (simp; omega) | omega)]; simp [go_sem]
          have q1_h_2 : w1.cell? ⟨w.heap.size, 2, none⟩ = some (.int .i64 v) := by rw [kc1 _ _ (by first | assumption | (simp; done) | (simp; omega) | omega)]; simp [go_sem]
          have r1_h_2 : w1.frozen? ⟨w.heap.size, 2, none⟩ = false := by rw [kf1 _ _ (by first | assumption | (simp; done) | (simp; omega) | omega)]; simp [go_sem]
          have z1_h : w.heap.size < w1.heap.size := kz1 _ (by first | assumption | (simp; done) | (simp; omega) | omega)
          have q1_h_1_0 : w1.cell? ⟨w.heap.size + 1, 0, none⟩ = some (.int .i64 x) := by rw [kc1 _ _ (by first | assumption | (simp; done) | (simp; omega) | omega)]; simp [go_sem]
          have r1_h_1_0 : w1.frozen? ⟨w.heap.size + 1, 0, none⟩ = false := by rw [kf1 _ _ (by first | assumption | (simp; done) | (simp; omega) | omega)]; simp [go_sem]
          have q1_h_1_1 : w1.cell? ⟨w.heap.size + 1, 1, none⟩ = some (.int .i64 y) := by rw [kc1 _ _ (by first | assumption | (simp; done) | (simp; omega) | omega)]; simp [go_sem]
          have r1_h_1_1 : w1.frozen? ⟨w.heap.size + 1, 1, none⟩ = false := by rw [kf1 _ _ (by first | assumption | (simp; done) | (simp; omega) | omega)]; simp [go_sem]
          have z1_h_1 : w.heap.size + 1 < w1.heap.size := kz1 _ (by first | assumption | (simp; done) | (simp; omega) | omega)
          have q1_h_1_1_0 : w1.cell? ⟨w.heap.size + 1 + 1, 0, none⟩ = some (.int .i64 0) := by rw [kc1 _ _ (by first | assumption | (simp; done) | (simp; omega) | omega)]; simp [go_sem]
          have r1_h_1_1_0 : w1.frozen? ⟨w.heap.size + 1 + 1, 0, none⟩ = false := by rw [kf1 _ _ (by first | assumption | (simp; done) | (simp; omega) | omega)]; simp [go_sem]
          have q1_h_1_1_1 : w1.cell? ⟨w.heap.size + 1 + 1, 1, none⟩ = some (.int .i64 0) := by rw [kc1 _ _ (by first | assumption | (simp; done) | (simp; omega) | omega)]; simp [go_sem]
          have r1_h_1_1_1 : w1.frozen? ⟨w.heap.size + 1 + 1, 1, none⟩ = false := by rw [kf1 _ _ (by first | assumption | (simp; done) | (simp; omega) | omega)]; simp [go_sem]
          have z1_h_1_1 : w.heap.size + 1 + 1 < w1.heap.size := kz1 _ (by first | assumption | (simp; done) | (simp; omega) | omega)
          clear kc1 kf1 kz1 ky1 kx1 kv1 ku1 hb1
          (go_wp2_with fail; refine (HT.out _).mono ?_; rintro e w2 ⟨rfl, hb2⟩; (have ha2 : Below w.heap.size w w2 := by (repeat (first | with_reducible exact Below.refl _ _ | with_reducible assumption | with_reducible refine balloc ?_ _ | with_reducible refine bdrew ?_ | with_reducible refine below_drewN ?_ _ | with_reducible refine bset ?_ ?_ _ | with_reducible exact Nat.le_refl _ | with_reducible refine bsize ?_ | (dsimp only; refine Nat.le_trans ?_ (Nat.le_add_right _ _)) | with_reducible refine Nat.le_trans ?_ (Nat.le_add_right _ _) | (with_reducible refine bstep ?_ (by assumption))))); obtain ⟨kc2, kf2, kz2, ky2, kx2, kv2, ku2⟩ := bcell hb2)
          have q2_h_0 : w2.cell? ⟨w.heap.size, 0, none⟩ = some (.int .i64 f) := by rw [kc2 _ _ (by first | assumption | (simp; done) | (simp; omega) | omega)]; simp [go_sem, q1_h_0, r1_h_0, q1_h_1, r1_h_1, q1_h_2, r1_h_2, z1_h, q1_h_1_0, r1_h_1_0, q1_h_1_1, r1_h_1_1, z1_h_1, q1_h_1_1_0, r1_h_1_1_0, q1_h_1_1_1, r1_h_1_1_1, z1_h_1_1]
          have r2_h_0 : w2.frozen? ⟨w.heap.size, 0, none⟩ = false := by rw [kf2 _ _ (by first | assumption | (simp; done) | (simp; omega) | omega)]; simp [go_sem, q1_h_0, r1_h_0, q1_h_1, r1_h_1, q1_h_2, r1_h_2, z1_h, q1_h_1_0, r1_h_1_0, q1_h_1_1, r1_h_1_1, z1_h_1, q1_h_1_1_0, r1_h_1_1_0, q1_h_1_1_1, r1_h_1_1_1, z1_h_1_1]
          have q2_h_1 : w2.cell? ⟨w.heap.size, 1, none⟩ = some (.int .i64 s) := by rw [kc2 _ _ (by first | assumption | (simp; done) | (simp; omega) | omega)]; simp [go_sem, q1_h_0, r1_h_0, q1_h_1, r1_h_1, q1_h_2, r1_h_2, z1_h, q1_h_1_0, r1_h_1_0, q1_h_1_1, r1_h_1_1, z1_h_1, q1_h_1_1_0, r1_h_1_1_0, q1_h_1_1_1, r1_h_1_1_1, z1_h_1_1]
          have r2_h_1 : w2.frozen? ⟨w.heap.size, 1, none⟩ = false := by rw [kf2 _ _ (by first | assumption | (simp; done) | (simp; omega) | omega)]; simp [go_sem, q1_h_0, r1_h_0, q1_h_1, r1_h_1, q1_h_2, r1_h_2, z1_h, q1_h_1_0, r1_h_1_0, q1_h_1_1, r1_h_1_1, z1_h_1, q1_h_1_1_0, r1_h_1_1_0, q1_h_1_1_1, r1_h_1_1_1, z1_h_1_1]
          have q2_h_2 : w2.cell? ⟨w.heap.size, 2, none⟩ = some (.int .i64 v) := by rw [kc2 _ _ (by first | assumption | (simp; done) | (simp; omega) | omega)]; simp [go_sem, q1_h_0, r1_h_0, q1_h_1, r1_h_1, q1_h_2, r1_h_2, z1_h, q1_h_1_0, r1_h_1_0, q1_h_1_1, r1_h_1_1, z1_h_1, q1_h_1_1_0, r1_h_1_1_0, q1_h_1_1_1, r1_h_1_1_1, z1_h_1_1]
          have r2_h_2 : w2.frozen? ⟨w.heap.size, 2, none⟩ = false := by rw [kf2 _ _ (by first | assumption | (simp; done) | (simp; omega) | omega)]; simp [go_sem, q1_h_0, r1_h_0, q1_h_1, r1_h_1, q1_h_2, r1_h_2, z1_h, q1_h_1_0, r1_h_1_0, q1_h_1_1, r1_h_1_1, z1_h_1, q1_h_1_1_0, r1_h_1_1_0, q1_h_1_1_1, r1_h_1_1_1, z1_h_1_1]
          have z2_h : w.heap.size < w2.heap.size := kz2 _ (by first | assumption | (simp; done) | (simp; omega) | omega)
          have q2_h_1_0 : w2.cell? ⟨w.heap.size + 1, 0, none⟩ = some (.int .i64 x) := by rw [kc2 _ _ (by first | assumption | (simp; done) | (simp; omega) | omega)]; simp [go_sem, q1_h_0, r1_h_0, q1_h_1, r1_h_1, q1_h_2, r1_h_2, z1_h, q1_h_1_0, r1_h_1_0, q1_h_1_1, r1_h_1_1, z1_h_1, q1_h_1_1_0, r1_h_1_1_0, q1_h_1_1_1, r1_h_1_1_1, z1_h_1_1]
          have r2_h_1_0 : w2.frozen? ⟨w.heap.size + 1, 0, none⟩ = false := by rw [kf2 _ _ (by first | assumption | (simp; done) | (simp; omega) | omega)]; simp [go_sem, q1_h_0, r1_h_0, q1_h_1, r1_h_1, q1_h_2, r1_h_2, z1_h, q1_h_1_0, r1_h_1_0, q1_h_1_1, r1_h_1_1, z1_h_1, q1_h_1_1_0, r1_h_1_1_0, q1_h_1_1_1, r1_h_1_1_1, z1_h_1_1]
          have q2_h_1_1 : w2.cell? ⟨w.heap.size + 1, 1, none⟩ = some (.int .i64 y) := by rw [kc2 _ _ (by first | assumption | (simp; done) | (simp; omega) | omega)]; simp [go_sem, q1_h_0, r1_h_0, q1_h_1, r1_h_1, q1_h_2, r1_h_2, z1_h, q1_h_1_0, r1_h_1_0, q1_h_1_1, r1_h_1_1, z1_h_1, q1_h_1_1_0, r1_h_1_1_0, q1_h_1_1_1, r1_h_1_1_1, z1_h_1_1]
          have r2_h_1_1 : w2.frozen? ⟨w.heap.size + 1, 1, none⟩ = false := by rw [kf2 _ _ (by first | assumption | (simp; done) | (simp; omega) | omega)]; simp [go_sem, q1_h_0, r1_h_0, q1_h_1, r1_h_1, q1_h_2, r1_h_2, z1_h, q1_h_1_0, r1_h_1_0, q1_h_1_1, r1_h_1_1, z1_h_1, q1_h_1_1_0, r1_h_1_1_0, q1_h_1_1_1, r1_h_1_1_1, z1_h_1_1]
          have z2_h_1 : w.heap.size + 1 < w2.heap.size := kz2 _ (by first | assumption | (simp; done) | (simp; omega) | omega)
          have q2_h_1_1_0 : w2.cell? ⟨w.heap.size + 1 + 1, 0, none⟩ = some (.int .i64 0) := by rw [kc2 _ _ (by first | assumption | (simp; done) | (simp; omega) | omega)]; simp [go_sem, q1_h_0, r1_h_0, q1_h_1, r1_h_1, q1_h_2, r1_h_2, z1_h, q1_h_1_0, r1_h_1_0, q1_h_1_1, r1_h_1_1, z1_h_1, q1_h_1_1_0, r1_h_1_1_0, q1_h_1_1_1, r1_h_1_1_1, z1_h_1_1]
          have r2_h_1_1_0 : w2.frozen? ⟨w.heap.size + 1 + 1, 0, none⟩ = false := by rw [kf2 _ _ (by first | assumption | (simp; done) | (simp; omega) | omega)]; simp [go_sem, q1_h_0, r1_h_0, q1_h_1, r1_h_1, q1_h_2, r1_h_2, z1_h, q1_h_1_0, r1_h_1_0, q1_h_1_1, r1_h_1_1, z1_h_1, q1_h_1_1_0, r1_h_1_1_0, q1_h_1_1_1, r1_h_1_1_1, z1_h_1_1]
          have q2_h_1_1_1 : w2.cell? ⟨w.heap.size + 1 + 1, 1, none⟩ = some (.int .i64 0) := by rw [kc2 _ _ (by first | assumption | (simp; done) | (simp; omega) | omega)]; simp [go_sem, q1_h_0, r1_h_0, q1_h_1, r1_h_1, q1_h_2, r1_h_2, z1_h, q1_h_1_0, r1_h_1_0, q1_h_1_1, r1_h_1_1, z1_h_1, q1_h_1_1_0, r1_h_1_1_0, q1_h_1_1_1, r1_h_1_1_1, z1_h_1_1]
          have r2_h_1_1_1 : w2.frozen? ⟨w.heap.size + 1 + 1, 1, none⟩ = false := by rw [kf2 _ _ (by first | assumption | (simp; done) | (simp; omega) | omega)]; simp [go_sem, q1_h_0, r1_h_0, q1_h_1, r1_h_1, q1_h_2, r1_h_2, z1_h, q1_h_1_0, r1_h_1_0, q1_h_1_1, r1_h_1_1, z1_h_1, q1_h_1_1_0, r1_h_1_1_0, q1_h_1_1_1, r1_h_1_1_1, z1_h_1_1]
          have z2_h_1_1 : w.heap.size + 1 + 1 < w2.heap.size := kz2 _ (by first | assumption | (simp; done) | (simp; omega) | omega)
          clear kc2 kf2 kz2 ky2 kx2 kv2 ku2 hb2 q1_h_0 r1_h_0 q1_h_1 r1_h_1 q1_h_2 r1_h_2 z1_h q1_h_1_0 r1_h_1_0 q1_h_1_1 r1_h_1_1 z1_h_1 q1_h_1_1_0 r1_h_1_1_0 q1_h_1_1_1 r1_h_1_1_1 z1_h_1_1
          go_wp2_with fail
          have hR : Res8 (w.heap.size + 1 + 1) w2 := ⟨_, _, q2_h_1_1_0, q2_h_1_1_1, r2_h_1_1_0, r2_h_1_1_1, z2_h_1_1⟩
          have bw : Below w.heap.size w w2 := by (repeat (first | with_reducible exact Below.refl _ _ | with_reducible assumption | with_reducible refine balloc ?_ _ | with_reducible refine bdrew ?_ | with_reducible refine below_drewN ?_ _ | with_reducible refine bset ?_ ?_ _ | with_reducible exact Nat.le_refl _ | with_reducible refine bsize ?_ | (dsimp only; refine Nat.le_trans ?_ (Nat.le_add_right _ _)) | with_reducible refine Nat.le_trans ?_ (Nat.le_add_right _ _) | (with_reducible refine bstep ?_ (by assumption))))
          have h0 : w.heap.size < w2.heap.size := z2_h
          have h10 : w.heap.size + 1 < w2.heap.size := z2_h_1
          clear q2_h_1_1_0 q2_h_1_1_1 r2_h_1_1_0 r2_h_1_1_1 r2_h_0 r2_h_1 r2_h_2 r2_h_1_0 r2_h_1_1
          have h20 : w.heap.size + 1 + 1 < w2.heap.size := z2_h_1_1
          go_region_held3 (fun W => Below w.heap.size w W ∧ Res8 (w.heap.size + 1 + 1) W ∧ w.heap.size + 1 + 1 < W.heap.size ∧ W.cell? ⟨w.heap.size, 0, none⟩ = some (.int .i64 f) ∧ W.cell? ⟨w.heap.size, 1, none⟩ = some (.int .i64 s) ∧ W.cell? ⟨w.heap.size, 2, none⟩ = some (.int .i64 v) ∧ W.cell? ⟨w.heap.size + 1, 0, none⟩ = some (.int .i64 x) ∧ W.cell? ⟨w.heap.size + 1, 1, none⟩ = some (.int .i64 y)) (((go_split_ands; (repeat' with_reducible apply And.intro) <;> first | with_reducible assumption | with_reducible exact Below.refl _ _ | with_reducible exact Res8.drew (by with_reducible assumption) | with_reducible exact Res8.drew (Res8.alloc (by with_reducible assumption) _) | with_reducible exact Res8.alloc (by with_reducible assumption) _ | with_reducible exact (Res8.set (Res8.set (by with_reducible assumption) 0 _ (by omega)) 1 _ (by omega)) | with_reducible exact Res8.drew (Res8.set (Res8.set (by with_reducible assumption) 0 _ (by omega)) 1 _ (by omega)) | ((repeat (first | with_reducible exact Below.refl _ _ | with_reducible assumption | with_reducible refine balloc ?_ _ | with_reducible refine bdrew ?_ | with_reducible refine below_drewN ?_ _ | with_reducible refine bset ?_ ?_ _ | with_reducible exact Nat.le_refl _ | with_reducible refine bsize ?_ | (dsimp only; refine Nat.le_trans ?_ (Nat.le_add_right _ _)) | with_reducible refine Nat.le_trans ?_ (Nat.le_add_right _ _) | (with_reducible refine bstep ?_ (by assumption)))); done) | (simp [go_sem]; done) | (simp; omega) | (simp [go_sem, *]; done) | go_keep))) (first | (go_at_call 47; refine (HP.out _).mono ?_; rintro e w3 ⟨rfl, hb3⟩; (try have fr := Res8.later (by first | with_reducible assumption | with_reducible exact Res8.drew (by with_reducible assumption) | with_reducible exact Res8.drew (Res8.alloc (by with_reducible assumption) _) | with_reducible exact Res8.alloc (by with_reducible assumption) _) hb3); (try (have fr2 := fr; obtain ⟨rx, ry, r1, r2, r3, r4, rz⟩ := fr2)); go_split_ands; (have f0 : Below w.heap.size w w3 := bstep (by first | with_reducible assumption | ((repeat (first | with_reducible exact Below.refl _ _ | with_reducible assumption | with_reducible refine balloc ?_ _ | with_reducible refine bdrew ?_ | with_reducible refine below_drewN ?_ _ | with_reducible refine bset ?_ ?_ _ | with_reducible exact Nat.le_refl _ | with_reducible refine bsize ?_ | (dsimp only; refine Nat.le_trans ?_ (Nat.le_add_right _ _)) | with_reducible refine Nat.le_trans ?_ (Nat.le_add_right _ _) | (with_reducible refine bstep ?_ (by assumption)))); done)) hb3); (have sz := hb3.size); (try simp only [go_sem] at sz); (have f1 : w3.cell? ⟨w.heap.size, 0, none⟩ = some (.int .i64 f) := keepa hb3 (by first | with_reducible assumption | omega | (simp; omega)) (by first | with_reducible assumption | (simp [go_sem]; done) | (simp [go_sem, *]; done))); (have f2 : w3.cell? ⟨w.heap.size, 1, none⟩ = some (.int .i64 s) := keepa hb3 (by first | with_reducible assumption | omega | (simp; omega)) (by first | with_reducible assumption | (simp [go_sem]; done) | (simp [go_sem, *]; done))); (have f3 : w3.cell? ⟨w.heap.size, 2, none⟩ = some (.int .i64 v) := keepa hb3 (by first | with_reducible assumption | omega | (simp; omega)) (by first | with_reducible assumption | (simp [go_sem]; done) | (simp [go_sem, *]; done))); (have f4 : w3.cell? ⟨w.heap.size + 1, 0, none⟩ = some (.int .i64 x) := keepa hb3 (by first | with_reducible assumption | omega | (simp; omega)) (by first | with_reducible assumption | (simp [go_sem]; done) | (simp [go_sem, *]; done))); (have f5 : w3.cell? ⟨w.heap.size + 1, 1, none⟩ = some (.int .i64 y) := keepa hb3 (by first | with_reducible assumption | omega | (simp; omega)) (by first | with_reducible assumption | (simp [go_sem]; done) | (simp [go_sem, *]; done))); (have fz : w.heap.size + 1 + 1 < w3.heap.size := by omega)) | (go_at_call 46; refine (HM.out _).mono ?_; rintro e w3 ⟨rfl, hb3⟩; (try have fr := Res8.later (by first | with_reducible assumption | with_reducible exact Res8.drew (by with_reducible assumption) | with_reducible exact Res8.drew (Res8.alloc (by with_reducible assumption) _) | with_reducible exact Res8.alloc (by with_reducible assumption) _) hb3); (try (have fr2 := fr; obtain ⟨rx, ry, r1, r2, r3, r4, rz⟩ := fr2)); go_split_ands; (have f0 : Below w.heap.size w w3 := bstep (by first | with_reducible assumption | ((repeat (first | with_reducible exact Below.refl _ _ | with_reducible assumption | with_reducible refine balloc ?_ _ | with_reducible refine bdrew ?_ | with_reducible refine below_drewN ?_ _ | with_reducible refine bset ?_ ?_ _ | with_reducible exact Nat.le_refl _ | with_reducible refine bsize ?_ | (dsimp only; refine Nat.le_trans ?_ (Nat.le_add_right _ _)) | with_reducible refine Nat.le_trans ?_ (Nat.le_add_right _ _) | (with_reducible refine bstep ?_ (by assumption)))); done)) hb3); (have sz := hb3.size); (try simp only [go_sem] at sz); (have f1 : w3.cell? ⟨w.heap.size, 0, none⟩ = some (.int .i64 f) := keepa hb3 (by first | with_reducible assumption | omega | (simp; omega)) (by first | with_reducible assumption | (simp [go_sem]; done) | (simp [go_sem, *]; done))); (have f2 : w3.cell? ⟨w.heap.size, 1, none⟩ = some (.int .i64 s) := keepa hb3 (by first | with_reducible assumption | omega | (simp; omega)) (by first | with_reducible assumption | (simp [go_sem]; done) | (simp [go_sem, *]; done))); (have f3 : w3.cell? ⟨w.heap.size, 2, none⟩ = some (.int .i64 v) := keepa hb3 (by first | with_reducible assumption | omega | (simp; omega)) (by first | with_reducible assumption | (simp [go_sem]; done) | (simp [go_sem, *]; done))); (have f4 : w3.cell? ⟨w.heap.size + 1, 0, none⟩ = some (.int .i64 x) := keepa hb3 (by first | with_reducible assumption | omega | (simp; omega)) (by first | with_reducible assumption | (simp [go_sem]; done) | (simp [go_sem, *]; done))); (have f5 : w3.cell? ⟨w.heap.size + 1, 1, none⟩ = some (.int .i64 y) := keepa hb3 (by first | with_reducible assumption | omega | (simp; omega)) (by first | with_reducible assumption | (simp [go_sem]; done) | (simp [go_sem, *]; done))); (have fz : w.heap.size + 1 + 1 < w3.heap.size := by omega)))
          all_goals go_wp2
          all_goals refine bodyPost_ret (v := .tuple #[.agg #[.int .i64 R1, .int .i64 R2], .bool R3]) (by simp only [results, Try.results18]; go_simp) rfl ⟨rfl, ?_⟩
          all_goals (repeat (first | with_reducible exact Below.refl _ _ | with_reducible assumption | with_reducible refine balloc ?_ _ | with_reducible refine bdrew ?_ | with_reducible refine below_drewN ?_ _ | with_reducible refine bset ?_ ?_ _ | with_reducible exact Nat.le_refl _ | with_reducible refine bsize ?_ | (dsimp only; refine Nat.le_trans ?_ (Nat.le_add_right _ _)) | with_reducible refine Nat.le_trans ?_ (Nat.le_add_right _ _) | (with_reducible refine bstep ?_ (by assumption))))
end Go.Proofs.Ythfaljninmcopaa
