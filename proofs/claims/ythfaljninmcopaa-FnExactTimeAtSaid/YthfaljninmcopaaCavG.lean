/- Caravans: when one comes to a place: of the program and of the model. -/
import Derived.Test.YthfaljninmcopaaCavF
namespace Go.Proofs.Ythfaljninmcopaa
open Go.ChangeShapes Go.WideShapes Go.ChangeAt Go.RowKit Go.Joins
set_option maxRecDepth 100000
set_option linter.unusedVariables false
set_option linter.unusedSimpArgs false

def tiK (f s v p : Int) : Bool := crB f s v && inB p f 2000
set_option maxHeartbeats 6400000 in
theorem time_impl (f s v p : Int) (b2 : -9223372036854775808 ≤ v ∧ v ≤ 9223372036854775807) (w : World) :
    Calls Try.prog 23 #[.agg #[.int .i64 f, .int .i64 s, .int .i64 v], .int .i64 p] w fun e w' => e = .returned (.tuple #[.agg #[.int .i64 (twoN (tiK f s v p) (p - f + v * s) v), .int .i64 (twoD (tiK f s v p) (p - f + v * s) v)], .bool (twoB (tiK f s v p) (p - f + v * s) v)]) ∧ Below w.heap.size w w' := by
  have HC := Lib.hid (fun W => isCav_impl f s v b2 W)
  cases h1 : crB f s v
  · obtain ⟨e1, e2, e3⟩ := nolow8 (tiK f s v p) (p - f + v * s) v (by simp [tiK, h1])
    rw [e1, e2, e3]; clear e1 e2 e3
    rw [h1] at HC
    go_enter Try.func23, Try.ntmps23
    (go_wp2_with fail; refine (HC.out _).mono ?_; rintro e w1 ⟨rfl, hb1⟩; have ha1 := hb1; obtain ⟨kc1, kf1, kz1, ky1, kx1, kv1, ku1⟩ := bcell hb1)
    go_wp2
    refine bodyPost_ret (v := .tuple #[.agg #[.int .i64 0, .int .i64 0], .bool false]) (by simp only [results, Try.results23]; go_simp) rfl ⟨rfl, ?_⟩
    (repeat (first | with_reducible exact Below.refl _ _ | with_reducible assumption | with_reducible refine balloc ?_ _ | with_reducible refine bdrew ?_ | with_reducible refine below_drewN ?_ _ | with_reducible refine bset ?_ ?_ _ | with_reducible exact Nat.le_refl _ | with_reducible refine bsize ?_ | (dsimp only; refine Nat.le_trans ?_ (Nat.le_add_right _ _)) | with_reducible refine Nat.le_trans ?_ (Nat.le_add_right _ _) | (with_reducible refine bstep ?_ (by assumption))))
  · cases h2 : inB p f 2000
    · obtain ⟨e1, e2, e3⟩ := nolow8 (tiK f s v p) (p - f + v * s) v (by simp [tiK, h2])
      rw [e1, e2, e3]; clear e1 e2 e3
      rw [h1] at HC
      go_enter Try.func23, Try.ntmps23
      (go_wp2_with fail; refine (HC.out _).mono ?_; rintro e w1 ⟨rfl, hb1⟩; (have ha1 : Below w.heap.size w w1 := by (repeat (first | with_reducible exact Below.refl _ _ | with_reducible assumption | with_reducible refine balloc ?_ _ | with_reducible refine bdrew ?_ | with_reducible refine below_drewN ?_ _ | with_reducible refine bset ?_ ?_ _ | with_reducible exact Nat.le_refl _ | with_reducible refine bsize ?_ | (dsimp only; refine Nat.le_trans ?_ (Nat.le_add_right _ _)) | with_reducible refine Nat.le_trans ?_ (Nat.le_add_right _ _) | (with_reducible refine bstep ?_ (by assumption))))); obtain ⟨kc1, kf1, kz1, ky1, kx1, kv1, ku1⟩ := bcell hb1)
      have q1_h_0 : w1.cell? ⟨w.heap.size, 0, none⟩ = some (.int .i64 f) := by rw [kc1 _ _ (by first | assumption | (simp; done) | (simp; omega) | omega)]; simp [go_sem]
      have r1_h_0 : w1.frozen? ⟨w.heap.size, 0, none⟩ = false := by rw [kf1 _ _ (by first | assumption | (simp; done) | (simp; omega) | omega)]; simp [go_sem]
      have q1_h_1 : w1.cell? ⟨w.heap.size, 1, none⟩ = some (.int .i64 s) := by rw [kc1 _ _ (by first | assumption | (simp; done) | (simp; omega) | omega)]; simp [go_sem]
      have r1_h_1 : w1.frozen? ⟨w.heap.size, 1, none⟩ = false := by rw [kf1 _ _ (by first | assumption | (simp; done) | (simp; omega) | omega)]; simp [go_sem]
      have q1_h_2 : w1.cell? ⟨w.heap.size, 2, none⟩ = some (.int .i64 v) := by rw [kc1 _ _ (by first | assumption | (simp; done) | (simp; omega) | omega)]; simp [go_sem]
      have r1_h_2 : w1.frozen? ⟨w.heap.size, 2, none⟩ = false := by rw [kf1 _ _ (by first | assumption | (simp; done) | (simp; omega) | omega)]; simp [go_sem]
      have z1_h : w.heap.size < w1.heap.size := kz1 _ (by first | assumption | (simp; done) | (simp; omega) | omega)
      have q1_h_1_0 : w1.cell? ⟨w.heap.size + 1, 0, none⟩ = some (.int .i64 0) := by rw [kc1 _ _ (by first | assumption | (simp; done) | (simp; omega) | omega)]; simp [go_sem]
      have r1_h_1_0 : w1.frozen? ⟨w.heap.size + 1, 0, none⟩ = false := by rw [kf1 _ _ (by first | assumption | (simp; done) | (simp; omega) | omega)]; simp [go_sem]
      have q1_h_1_1 : w1.cell? ⟨w.heap.size + 1, 1, none⟩ = some (.int .i64 0) := by rw [kc1 _ _ (by first | assumption | (simp; done) | (simp; omega) | omega)]; simp [go_sem]
      have r1_h_1_1 : w1.frozen? ⟨w.heap.size + 1, 1, none⟩ = false := by rw [kf1 _ _ (by first | assumption | (simp; done) | (simp; omega) | omega)]; simp [go_sem]
      have z1_h_1 : w.heap.size + 1 < w1.heap.size := kz1 _ (by first | assumption | (simp; done) | (simp; omega) | omega)
      clear kc1 kf1 kz1 ky1 kx1 kv1 ku1 hb1
      go_wp2_with (go_at_call 43; refine (in_impl _ _ _ _).mono ?_; rintro e w2 ⟨rfl, rfl⟩; rw [h2])
      refine bodyPost_ret (v := .tuple #[.agg #[.int .i64 0, .int .i64 0], .bool false]) (by simp only [results, Try.results23]; go_simp) rfl ⟨rfl, ?_⟩
      (repeat (first | with_reducible exact Below.refl _ _ | with_reducible assumption | with_reducible refine balloc ?_ _ | with_reducible refine bdrew ?_ | with_reducible refine below_drewN ?_ _ | with_reducible refine bset ?_ ?_ _ | with_reducible exact Nat.le_refl _ | with_reducible refine bsize ?_ | (dsimp only; refine Nat.le_trans ?_ (Nat.le_add_right _ _)) | with_reducible refine Nat.le_trans ?_ (Nat.le_add_right _ _) | (with_reducible refine bstep ?_ (by assumption))))
    · rw [show tiK f s v p = true by simp [tiK, h1, h2], (two_yes _ _).1, (two_yes _ _).2.1, (two_yes _ _).2.2]
      obtain ⟨f0, s0, v0⟩ := crB_yes h1
      have hp : f ≤ p ∧ p ≤ 2000 := by simpa [inB] using h2
      have b : 0 ≤ v * s ∧ v * s ≤ 1000 * 1000 := ⟨Int.mul_nonneg (by omega) s0.1, Int.mul_le_mul v0.2 s0.2 s0.1 (by omega)⟩
      have HM := Lib.hid (fun W => missed_impl f s v s0 v0 W)
      have HF := Lib.hid (fun W g h1 h2 => tf2 v (p - f) (v * s) (by omega) (by omega) (by omega) g W h1 h2)
      rw [h1] at HC
      clear h1
      generalize v * s = m at *
      obtain ⟨R1, hR1⟩ : ∃ R, lowN (p - f + m) v = R := ⟨_, rfl⟩
      obtain ⟨R2, hR2⟩ : ∃ R, lowD (p - f + m) v = R := ⟨_, rfl⟩
      obtain ⟨R3, hR3⟩ : ∃ R, lowB (p - f + m) v = R := ⟨_, rfl⟩
      rw [hR1, hR2, hR3]; rw [hR1, hR2, hR3] at HF
      clear hR1 hR2 hR3
      go_enter Try.func23, Try.ntmps23
      (go_wp2_with fail; refine (HC.out _).mono ?_; rintro e w1 ⟨rfl, hb1⟩; (have ha1 : Below w.heap.size w w1 := by (repeat (first | with_reducible exact Below.refl _ _ | with_reducible assumption | with_reducible refine balloc ?_ _ | with_reducible refine bdrew ?_ | with_reducible refine below_drewN ?_ _ | with_reducible refine bset ?_ ?_ _ | with_reducible exact Nat.le_refl _ | with_reducible refine bsize ?_ | (dsimp only; refine Nat.le_trans ?_ (Nat.le_add_right _ _)) | with_reducible refine Nat.le_trans ?_ (Nat.le_add_right _ _) | (with_reducible refine bstep ?_ (by assumption))))); obtain ⟨kc1, kf1, kz1, ky1, kx1, kv1, ku1⟩ := bcell hb1)
      have q1_h_0 : w1.cell? ⟨w.heap.size, 0, none⟩ = some (.int .i64 f) := by rw [kc1 _ _ (by first | assumption | (simp; done) | (simp; omega) | omega)]; simp [go_sem]
      have r1_h_0 : w1.frozen? ⟨w.heap.size, 0, none⟩ = false := by rw [kf1 _ _ (by first | assumption | (simp; done) | (simp; omega) | omega)]; simp [go_sem]
      have q1_h_1 : w1.cell? ⟨w.heap.size, 1, none⟩ = some (.int .i64 s) := by rw [kc1 _ _ (by first | assumption | (simp; done) | (simp; omega) | omega)]; simp [go_sem]
      have r1_h_1 : w1.frozen? ⟨w.heap.size, 1, none⟩ = false := by rw [kf1 _ _ (by first | assumption | (simp; done) | (simp; omega) | omega)]; simp [go_sem]
      have q1_h_2 : w1.cell? ⟨w.heap.size, 2, none⟩ = some (.int .i64 v) := by rw [kc1 _ _ (by first | assumption | (simp; done) | (simp; omega) | omega)]; simp [go_sem]
      have r1_h_2 : w1.frozen? ⟨w.heap.size, 2, none⟩ = false := by rw [kf1 _ _ (by first | assumption | (simp; done) | (simp; omega) | omega)]; simp [go_sem]
      have z1_h : w.heap.size < w1.heap.size := kz1 _ (by first | assumption | (simp; done) | (simp; omega) | omega)
      have q1_h_1_0 : w1.cell? ⟨w.heap.size + 1, 0, none⟩ = some (.int .i64 0) := by rw [kc1 _ _ (by first | assumption | (simp; done) | (simp; omega) | omega)]; simp [go_sem]
      have r1_h_1_0 : w1.frozen? ⟨w.heap.size + 1, 0, none⟩ = false := by rw [kf1 _ _ (by first | assumption | (simp; done) | (simp; omega) | omega)]; simp [go_sem]
      have q1_h_1_1 : w1.cell? ⟨w.heap.size + 1, 1, none⟩ = some (.int .i64 0) := by rw [kc1 _ _ (by first | assumption | (simp; done) | (simp; omega) | omega)]; simp [go_sem]
      have r1_h_1_1 : w1.frozen? ⟨w.heap.size + 1, 1, none⟩ = false := by rw [kf1 _ _ (by first | assumption | (simp; done) | (simp; omega) | omega)]; simp [go_sem]
      have z1_h_1 : w.heap.size + 1 < w1.heap.size := kz1 _ (by first | assumption | (simp; done) | (simp; omega) | omega)
      clear kc1 kf1 kz1 ky1 kx1 kv1 ku1 hb1
      go_wp2_with (go_at_call 43; refine (in_impl _ _ _ _).mono ?_; rintro e w2 ⟨rfl, rfl⟩; rw [h2])
      have hR : Res8 (w.heap.size + 1) w1 := ⟨_, _, q1_h_1_0, q1_h_1_1, r1_h_1_0, r1_h_1_1, z1_h_1⟩
      have h0 : w.heap.size < w1.heap.size := z1_h
      clear q1_h_1_0 q1_h_1_1 r1_h_1_0 r1_h_1_1 r1_h_0 r1_h_1 r1_h_2
      have wq1 : IntKind.i64.wrap (p - f) = p - f := IntWalk.i64_in _ (by omega)
      have h20 : w.heap.size + 1 < w1.heap.size := z1_h_1
      have bw : Below w.heap.size w w1 := ha1
      go_region_held3 (fun W => Below w.heap.size w W ∧ Res8 (w.heap.size + 1) W ∧ w.heap.size + 1 < W.heap.size ∧ W.cell? ⟨w.heap.size, 0, none⟩ = some (.int .i64 f) ∧ W.cell? ⟨w.heap.size, 1, none⟩ = some (.int .i64 s) ∧ W.cell? ⟨w.heap.size, 2, none⟩ = some (.int .i64 v)) (((go_split_ands; (repeat' with_reducible apply And.intro) <;> first | with_reducible assumption | with_reducible exact Below.refl _ _ | with_reducible exact Res8.drew (by with_reducible assumption) | with_reducible exact Res8.drew (Res8.alloc (by with_reducible assumption) _) | with_reducible exact Res8.alloc (by with_reducible assumption) _ | with_reducible exact (Res8.set (Res8.set (by with_reducible assumption) 0 _ (by omega)) 1 _ (by omega)) | with_reducible exact Res8.drew (Res8.set (Res8.set (by with_reducible assumption) 0 _ (by omega)) 1 _ (by omega)) | ((repeat (first | with_reducible exact Below.refl _ _ | with_reducible assumption | with_reducible refine balloc ?_ _ | with_reducible refine bdrew ?_ | with_reducible refine below_drewN ?_ _ | with_reducible refine bset ?_ ?_ _ | with_reducible exact Nat.le_refl _ | with_reducible refine bsize ?_ | (dsimp only; refine Nat.le_trans ?_ (Nat.le_add_right _ _)) | with_reducible refine Nat.le_trans ?_ (Nat.le_add_right _ _) | (with_reducible refine bstep ?_ (by assumption)))); done) | (simp [go_sem]; done) | (simp; omega) | (simp [go_sem, *]; done) | go_keep))) (first | (go_at_call 52; refine (HM.out _).mono ?_; rintro e w3 ⟨rfl, hb3⟩; (try have fr := Res8.later (by first | with_reducible assumption | with_reducible exact Res8.drew (by with_reducible assumption) | with_reducible exact Res8.drew (Res8.alloc (by with_reducible assumption) _) | with_reducible exact Res8.alloc (by with_reducible assumption) _) hb3); (try (have fr2 := fr; obtain ⟨rx, ry, r1, r2, r3, r4, rz⟩ := fr2)); go_split_ands; (have f0 : Below w.heap.size w w3 := bstep (by first | with_reducible assumption | ((repeat (first | with_reducible exact Below.refl _ _ | with_reducible assumption | with_reducible refine balloc ?_ _ | with_reducible refine bdrew ?_ | with_reducible refine below_drewN ?_ _ | with_reducible refine bset ?_ ?_ _ | with_reducible exact Nat.le_refl _ | with_reducible refine bsize ?_ | (dsimp only; refine Nat.le_trans ?_ (Nat.le_add_right _ _)) | with_reducible refine Nat.le_trans ?_ (Nat.le_add_right _ _) | (with_reducible refine bstep ?_ (by assumption)))); done)) hb3); (have sz := hb3.size); (try simp only [go_sem] at sz); (have f1 : w3.cell? ⟨w.heap.size, 0, none⟩ = some (.int .i64 f) := keepa hb3 (by first | with_reducible assumption | omega | (simp; omega)) (by first | with_reducible assumption | (simp [go_sem]; done) | (simp [go_sem, *]; done))); (have f2 : w3.cell? ⟨w.heap.size, 1, none⟩ = some (.int .i64 s) := keepa hb3 (by first | with_reducible assumption | omega | (simp; omega)) (by first | with_reducible assumption | (simp [go_sem]; done) | (simp [go_sem, *]; done))); (have f3 : w3.cell? ⟨w.heap.size, 2, none⟩ = some (.int .i64 v) := keepa hb3 (by first | with_reducible assumption | omega | (simp; omega)) (by first | with_reducible assumption | (simp [go_sem]; done) | (simp [go_sem, *]; done))); (have fz : w.heap.size + 1 < w3.heap.size := by omega)) | (go_at_call 51; refine (HF.out _ _ (by simp [go_sem]) (by simp [go_sem])).mono ?_; rintro e w3 ⟨rfl, hb3⟩; (try have fr := Res8.later (by first | with_reducible assumption | with_reducible exact Res8.drew (by with_reducible assumption) | with_reducible exact Res8.drew (Res8.alloc (by with_reducible assumption) _) | with_reducible exact Res8.alloc (by with_reducible assumption) _) hb3); (try (have fr2 := fr; obtain ⟨rx, ry, r1, r2, r3, r4, rz⟩ := fr2)); go_split_ands; (have f0 : Below w.heap.size w w3 := bstep (by first | with_reducible assumption | ((repeat (first | with_reducible exact Below.refl _ _ | with_reducible assumption | with_reducible refine balloc ?_ _ | with_reducible refine bdrew ?_ | with_reducible refine below_drewN ?_ _ | with_reducible refine bset ?_ ?_ _ | with_reducible exact Nat.le_refl _ | with_reducible refine bsize ?_ | (dsimp only; refine Nat.le_trans ?_ (Nat.le_add_right _ _)) | with_reducible refine Nat.le_trans ?_ (Nat.le_add_right _ _) | (with_reducible refine bstep ?_ (by assumption)))); done)) hb3); (have sz := hb3.size); (try simp only [go_sem] at sz); (have f1 : w3.cell? ⟨w.heap.size, 0, none⟩ = some (.int .i64 f) := keepa hb3 (by first | with_reducible assumption | omega | (simp; omega)) (by first | with_reducible assumption | (simp [go_sem]; done) | (simp [go_sem, *]; done))); (have f2 : w3.cell? ⟨w.heap.size, 1, none⟩ = some (.int .i64 s) := keepa hb3 (by first | with_reducible assumption | omega | (simp; omega)) (by first | with_reducible assumption | (simp [go_sem]; done) | (simp [go_sem, *]; done))); (have f3 : w3.cell? ⟨w.heap.size, 2, none⟩ = some (.int .i64 v) := keepa hb3 (by first | with_reducible assumption | omega | (simp; omega)) (by first | with_reducible assumption | (simp [go_sem]; done) | (simp [go_sem, *]; done))); (have fz : w.heap.size + 1 < w3.heap.size := by omega)))
      all_goals go_wp2
      all_goals refine bodyPost_ret (v := .tuple #[.agg #[.int .i64 R1, .int .i64 R2], .bool R3]) (by simp only [results, Try.results23]; go_simp) rfl ⟨rfl, ?_⟩
      all_goals (repeat (first | with_reducible exact Below.refl _ _ | with_reducible assumption | with_reducible refine balloc ?_ _ | with_reducible refine bdrew ?_ | with_reducible refine below_drewN ?_ _ | with_reducible refine bset ?_ ?_ _ | with_reducible exact Nat.le_refl _ | with_reducible refine bsize ?_ | (dsimp only; refine Nat.le_trans ?_ (Nat.le_add_right _ _)) | with_reducible refine Nat.le_trans ?_ (Nat.le_add_right _ _) | (with_reducible refine bstep ?_ (by assumption))))
set_option maxHeartbeats 3200000 in
theorem time_spec8 (f s v p : Int) (w : World) :
    Calls Try.prog 22 #[.agg #[.int .i64 f, .int .i64 s, .int .i64 v], .int .i64 p] w fun e w' => e = .returned (.tuple #[.agg #[.int .i64 (twoN (tiK f s v p) (p - f + v * s) v), .int .i64 (twoD (tiK f s v p) (p - f + v * s) v)], .bool (twoB (tiK f s v p) (p - f + v * s) v)]) ∧ Below w.heap.size w w' := by
  have HC := Lib.hid (fun W => good_cav f s v W)
  cases h1 : crB f s v
  · obtain ⟨e1, e2, e3⟩ := nolow8 (tiK f s v p) (p - f + v * s) v (by simp [tiK, h1])
    rw [e1, e2, e3]; clear e1 e2 e3
    rw [h1] at HC
    go_enter Try.func22, Try.ntmps22
    (go_wp2_with fail; refine (HC.out _).mono ?_; rintro e w1 ⟨rfl, hb1⟩; have ha1 := hb1; obtain ⟨kc1, kf1, kz1, ky1, kx1, kv1, ku1⟩ := bcell hb1)
    go_wp2
    refine bodyPost_ret (v := .tuple #[.agg #[.int .i64 0, .int .i64 0], .bool false]) (by simp only [results, Try.results22]; go_simp) rfl ⟨rfl, ?_⟩
    (repeat (first | with_reducible exact Below.refl _ _ | with_reducible assumption | with_reducible refine balloc ?_ _ | with_reducible refine bdrew ?_ | with_reducible refine below_drewN ?_ _ | with_reducible refine bset ?_ ?_ _ | with_reducible exact Nat.le_refl _ | with_reducible refine bsize ?_ | (dsimp only; refine Nat.le_trans ?_ (Nat.le_add_right _ _)) | with_reducible refine Nat.le_trans ?_ (Nat.le_add_right _ _) | (with_reducible refine bstep ?_ (by assumption))))
  · rw [h1] at HC
    cases h2 : inB p f 2000
    · obtain ⟨e1, e2, e3⟩ := nolow8 (tiK f s v p) (p - f + v * s) v (by simp [tiK, h2])
      rw [e1, e2, e3]; clear e1 e2 e3
      go_enter Try.func22, Try.ntmps22
      (go_wp2_with fail; refine (HC.out _).mono ?_; rintro e w1 ⟨rfl, hb1⟩; (have ha1 : Below w.heap.size w w1 := by (repeat (first | with_reducible exact Below.refl _ _ | with_reducible assumption | with_reducible refine balloc ?_ _ | with_reducible refine bdrew ?_ | with_reducible refine below_drewN ?_ _ | with_reducible refine bset ?_ ?_ _ | with_reducible exact Nat.le_refl _ | with_reducible refine bsize ?_ | (dsimp only; refine Nat.le_trans ?_ (Nat.le_add_right _ _)) | with_reducible refine Nat.le_trans ?_ (Nat.le_add_right _ _) | (with_reducible refine bstep ?_ (by assumption))))); obtain ⟨kc1, kf1, kz1, ky1, kx1, kv1, ku1⟩ := bcell hb1)
      have q1_h_0 : w1.cell? ⟨w.heap.size, 0, none⟩ = some (.int .i64 f) := by rw [kc1 _ _ (by first | assumption | (simp; done) | (simp; omega) | omega)]; simp [go_sem]
      have r1_h_0 : w1.frozen? ⟨w.heap.size, 0, none⟩ = false := by rw [kf1 _ _ (by first | assumption | (simp; done) | (simp; omega) | omega)]; simp [go_sem]
      have q1_h_1 : w1.cell? ⟨w.heap.size, 1, none⟩ = some (.int .i64 s) := by rw [kc1 _ _ (by first | assumption | (simp; done) | (simp; omega) | omega)]; simp [go_sem]
      have r1_h_1 : w1.frozen? ⟨w.heap.size, 1, none⟩ = false := by rw [kf1 _ _ (by first | assumption | (simp; done) | (simp; omega) | omega)]; simp [go_sem]
      have q1_h_2 : w1.cell? ⟨w.heap.size, 2, none⟩ = some (.int .i64 v) := by rw [kc1 _ _ (by first | assumption | (simp; done) | (simp; omega) | omega)]; simp [go_sem]
      have r1_h_2 : w1.frozen? ⟨w.heap.size, 2, none⟩ = false := by rw [kf1 _ _ (by first | assumption | (simp; done) | (simp; omega) | omega)]; simp [go_sem]
      have z1_h : w.heap.size < w1.heap.size := kz1 _ (by first | assumption | (simp; done) | (simp; omega) | omega)
      have q1_h_1_0 : w1.cell? ⟨w.heap.size + 1, 0, none⟩ = some (.int .i64 0) := by rw [kc1 _ _ (by first | assumption | (simp; done) | (simp; omega) | omega)]; simp [go_sem]
      have r1_h_1_0 : w1.frozen? ⟨w.heap.size + 1, 0, none⟩ = false := by rw [kf1 _ _ (by first | assumption | (simp; done) | (simp; omega) | omega)]; simp [go_sem]
      have q1_h_1_1 : w1.cell? ⟨w.heap.size + 1, 1, none⟩ = some (.int .i64 0) := by rw [kc1 _ _ (by first | assumption | (simp; done) | (simp; omega) | omega)]; simp [go_sem]
      have r1_h_1_1 : w1.frozen? ⟨w.heap.size + 1, 1, none⟩ = false := by rw [kf1 _ _ (by first | assumption | (simp; done) | (simp; omega) | omega)]; simp [go_sem]
      have z1_h_1 : w.heap.size + 1 < w1.heap.size := kz1 _ (by first | assumption | (simp; done) | (simp; omega) | omega)
      clear kc1 kf1 kz1 ky1 kx1 kv1 ku1 hb1
      go_wp2_with (go_at_call 50; refine (in_spec _ _ _ _).mono ?_; rintro e w2 ⟨rfl, rfl⟩; rw [h2])
      refine bodyPost_ret (v := .tuple #[.agg #[.int .i64 0, .int .i64 0], .bool false]) (by simp only [results, Try.results22]; go_simp) rfl ⟨rfl, ?_⟩
      (repeat (first | with_reducible exact Below.refl _ _ | with_reducible assumption | with_reducible refine balloc ?_ _ | with_reducible refine bdrew ?_ | with_reducible refine below_drewN ?_ _ | with_reducible refine bset ?_ ?_ _ | with_reducible exact Nat.le_refl _ | with_reducible refine bsize ?_ | (dsimp only; refine Nat.le_trans ?_ (Nat.le_add_right _ _)) | with_reducible refine Nat.le_trans ?_ (Nat.le_add_right _ _) | (with_reducible refine bstep ?_ (by assumption))))
    · rw [show tiK f s v p = true by simp [tiK, h1, h2], (two_yes _ _).1, (two_yes _ _).2.1, (two_yes _ _).2.2]
      obtain ⟨f0, s0, v0⟩ := crB_yes h1
      have hp : f ≤ p ∧ p ≤ 2000 := by simpa [inB] using h2
      have b : 0 ≤ s * v ∧ s * v ≤ 1000 * 1000 := ⟨Int.mul_nonneg s0.1 (by omega), Int.mul_le_mul s0.2 v0.2 (by omega) (by omega)⟩
      have e : p - f + v * s = s * v + p - f := by rw [Int.mul_comm v s]; omega
      rw [e]
      have HM := Lib.hid (fun W => make_spec (s * v + p - f) v (by omega) (by omega) (by omega) (by omega) W)
      clear e h1
      obtain ⟨R1, hR1⟩ : ∃ R, lowN (s * v + p - f) v = R := ⟨_, rfl⟩
      obtain ⟨R2, hR2⟩ : ∃ R, lowD (s * v + p - f) v = R := ⟨_, rfl⟩
      obtain ⟨R3, hR3⟩ : ∃ R, lowB (s * v + p - f) v = R := ⟨_, rfl⟩
      rw [hR1, hR2, hR3]; rw [hR1, hR2, hR3] at HM
      clear hR1 hR2 hR3
      go_enter Try.func22, Try.ntmps22
      (go_wp2_with fail; refine (HC.out _).mono ?_; rintro e w1 ⟨rfl, hb1⟩; (have ha1 : Below w.heap.size w w1 := by (repeat (first | with_reducible exact Below.refl _ _ | with_reducible assumption | with_reducible refine balloc ?_ _ | with_reducible refine bdrew ?_ | with_reducible refine below_drewN ?_ _ | with_reducible refine bset ?_ ?_ _ | with_reducible exact Nat.le_refl _ | with_reducible refine bsize ?_ | (dsimp only; refine Nat.le_trans ?_ (Nat.le_add_right _ _)) | with_reducible refine Nat.le_trans ?_ (Nat.le_add_right _ _) | (with_reducible refine bstep ?_ (by assumption))))); obtain ⟨kc1, kf1, kz1, ky1, kx1, kv1, ku1⟩ := bcell hb1)
      have q1_h_0 : w1.cell? ⟨w.heap.size, 0, none⟩ = some (.int .i64 f) := by rw [kc1 _ _ (by first | assumption | (simp; done) | (simp; omega) | omega)]; simp [go_sem]
      have r1_h_0 : w1.frozen? ⟨w.heap.size, 0, none⟩ = false := by rw [kf1 _ _ (by first | assumption | (simp; done) | (simp; omega) | omega)]; simp [go_sem]
      have q1_h_1 : w1.cell? ⟨w.heap.size, 1, none⟩ = some (.int .i64 s) := by rw [kc1 _ _ (by first | assumption | (simp; done) | (simp; omega) | omega)]; simp [go_sem]
      have r1_h_1 : w1.frozen? ⟨w.heap.size, 1, none⟩ = false := by rw [kf1 _ _ (by first | assumption | (simp; done) | (simp; omega) | omega)]; simp [go_sem]
      have q1_h_2 : w1.cell? ⟨w.heap.size, 2, none⟩ = some (.int .i64 v) := by rw [kc1 _ _ (by first | assumption | (simp; done) | (simp; omega) | omega)]; simp [go_sem]
      have r1_h_2 : w1.frozen? ⟨w.heap.size, 2, none⟩ = false := by rw [kf1 _ _ (by first | assumption | (simp; done) | (simp; omega) | omega)]; simp [go_sem]
      have z1_h : w.heap.size < w1.heap.size := kz1 _ (by first | assumption | (simp; done) | (simp; omega) | omega)
      have q1_h_1_0 : w1.cell? ⟨w.heap.size + 1, 0, none⟩ = some (.int .i64 0) := by rw [kc1 _ _ (by first | assumption | (simp; done) | (simp; omega) | omega)]; simp [go_sem]
      have r1_h_1_0 : w1.frozen? ⟨w.heap.size + 1, 0, none⟩ = false := by rw [kf1 _ _ (by first | assumption | (simp; done) | (simp; omega) | omega)]; simp [go_sem]
      have q1_h_1_1 : w1.cell? ⟨w.heap.size + 1, 1, none⟩ = some (.int .i64 0) := by rw [kc1 _ _ (by first | assumption | (simp; done) | (simp; omega) | omega)]; simp [go_sem]
      have r1_h_1_1 : w1.frozen? ⟨w.heap.size + 1, 1, none⟩ = false := by rw [kf1 _ _ (by first | assumption | (simp; done) | (simp; omega) | omega)]; simp [go_sem]
      have z1_h_1 : w.heap.size + 1 < w1.heap.size := kz1 _ (by first | assumption | (simp; done) | (simp; omega) | omega)
      clear kc1 kf1 kz1 ky1 kx1 kv1 ku1 hb1
      go_wp2_with (go_at_call 50; refine (in_spec _ _ _ _).mono ?_; rintro e w2 ⟨rfl, rfl⟩; rw [h2])
      refine (HM.out _).mono ?_; rintro e w2 ⟨rfl, hb2⟩; (have ha2 : Below w.heap.size w w2 := by (repeat (first | with_reducible exact Below.refl _ _ | with_reducible assumption | with_reducible refine balloc ?_ _ | with_reducible refine bdrew ?_ | with_reducible refine below_drewN ?_ _ | with_reducible refine bset ?_ ?_ _ | with_reducible exact Nat.le_refl _ | with_reducible refine bsize ?_ | (dsimp only; refine Nat.le_trans ?_ (Nat.le_add_right _ _)) | with_reducible refine Nat.le_trans ?_ (Nat.le_add_right _ _) | (with_reducible refine bstep ?_ (by assumption))))); obtain ⟨kc2, kf2, kz2, ky2, kx2, kv2, ku2⟩ := bcell hb2
      have q2_h_1_0 : w2.cell? ⟨w.heap.size + 1, 0, none⟩ = some (.int .i64 0) := by rw [kc2 _ _ (by first | assumption | (simp; done) | (simp; omega) | omega)]; simp [go_sem, q1_h_0, r1_h_0, q1_h_1, r1_h_1, q1_h_2, r1_h_2, z1_h, q1_h_1_0, r1_h_1_0, q1_h_1_1, r1_h_1_1, z1_h_1]
      have r2_h_1_0 : w2.frozen? ⟨w.heap.size + 1, 0, none⟩ = false := by rw [kf2 _ _ (by first | assumption | (simp; done) | (simp; omega) | omega)]; simp [go_sem, q1_h_0, r1_h_0, q1_h_1, r1_h_1, q1_h_2, r1_h_2, z1_h, q1_h_1_0, r1_h_1_0, q1_h_1_1, r1_h_1_1, z1_h_1]
      have q2_h_1_1 : w2.cell? ⟨w.heap.size + 1, 1, none⟩ = some (.int .i64 0) := by rw [kc2 _ _ (by first | assumption | (simp; done) | (simp; omega) | omega)]; simp [go_sem, q1_h_0, r1_h_0, q1_h_1, r1_h_1, q1_h_2, r1_h_2, z1_h, q1_h_1_0, r1_h_1_0, q1_h_1_1, r1_h_1_1, z1_h_1]
      have r2_h_1_1 : w2.frozen? ⟨w.heap.size + 1, 1, none⟩ = false := by rw [kf2 _ _ (by first | assumption | (simp; done) | (simp; omega) | omega)]; simp [go_sem, q1_h_0, r1_h_0, q1_h_1, r1_h_1, q1_h_2, r1_h_2, z1_h, q1_h_1_0, r1_h_1_0, q1_h_1_1, r1_h_1_1, z1_h_1]
      have z2_h_1 : w.heap.size + 1 < w2.heap.size := kz2 _ (by first | assumption | (simp; done) | (simp; omega) | omega)
      clear kc2 kf2 kz2 ky2 kx2 kv2 ku2 hb2 q1_h_0 r1_h_0 q1_h_1 r1_h_1 q1_h_2 r1_h_2 z1_h q1_h_1_0 r1_h_1_0 q1_h_1_1 r1_h_1_1 z1_h_1
      go_wp2
      refine bodyPost_ret (v := .tuple #[.agg #[.int .i64 R1, .int .i64 R2], .bool R3]) (by simp only [results, Try.results22]; go_simp) rfl ⟨rfl, ?_⟩
      (repeat (first | with_reducible exact Below.refl _ _ | with_reducible assumption | with_reducible refine balloc ?_ _ | with_reducible refine bdrew ?_ | with_reducible refine below_drewN ?_ _ | with_reducible refine bset ?_ ?_ _ | with_reducible exact Nat.le_refl _ | with_reducible refine bsize ?_ | (dsimp only; refine Nat.le_trans ?_ (Nat.le_add_right _ _)) | with_reducible refine Nat.le_trans ?_ (Nat.le_add_right _ _) | (with_reducible refine bstep ?_ (by assumption))))
end Go.Proofs.Ythfaljninmcopaa
