/- The contract of the model's DrivenBy, and both sides at every list. -/
import Derived.Test.YtkpeiibncbcdhaaDriven
namespace Go.Proofs.Ytkpeiibncbcdhaa
open Go.ChangeShapes Go.WideShapes Go.ChangeAt Go.RowKit Go.Joins
set_option maxRecDepth 100000
set_option linter.unusedVariables false
set_option linter.unusedSimpArgs false

theorem sumL_cons (a b : Int) (l : List (Int × Int)) (x y : Int) : sumL ((a, b) :: l) x y = if (amB a b && lowB (x * b + a * y) (y * b)) = true then sumL l (lowN (x * b + a * y) (y * b)) (lowD (x * b + a * y) (y * b)) else none := rfl

set_option maxHeartbeats 1600000 in
theorem driven_spec_yes (a : Addr) (cap : Nat) (l : List StepV) (w : World) (hL : LiesG 3 fStep w a cap l) (hs : stepsB l = true) :
    Calls Try.prog 44 #[.slice (some a) l.length cap] w fun e w' => e = .returned (.tuple #[.agg #[.int .i64 (oN (sumL (wayL l) 0 1)), .int .i64 (oD (sumL (wayL l) 0 1))], .bool (oB (sumL (wayL l) 0 1))]) ∧ Below w.heap.size w w' := by
  have hlc := hL.hlc
  have hcap := hL.hcap
  have h120 := steps_len hs
  have hcon := fun W (hb : Below w.heap.size w W) => tpSteps_spec a cap l W (liesG_below hL hb)
  rw [hs] at hcon
  have HC := Lib.hid hcon
  have HS := Lib.hid hs
  clear hcon hs
  go_enter Try.func44, Try.ntmps44
  (go_wp2_with fail; refine (HC.out _ (by (repeat (first | with_reducible exact Below.refl _ _ | with_reducible assumption | with_reducible refine balloc ?_ _ | with_reducible refine bdrew ?_ | with_reducible refine bset ?_ ?_ _ | with_reducible exact Nat.le_refl _ | with_reducible refine bsize ?_ | (dsimp only; refine Nat.le_trans ?_ (Nat.le_add_right _ _)) | with_reducible refine Nat.le_trans ?_ (Nat.le_add_right _ _) | (with_reducible refine bstep ?_ (by assumption)))))).mono ?_; rintro e w1 ⟨rfl, hb1⟩; (have ha1 : Below w.heap.size w w1 := by (repeat (first | with_reducible exact Below.refl _ _ | with_reducible assumption | with_reducible refine balloc ?_ _ | with_reducible refine bdrew ?_ | with_reducible refine bset ?_ ?_ _ | with_reducible exact Nat.le_refl _ | with_reducible refine bsize ?_ | (dsimp only; refine Nat.le_trans ?_ (Nat.le_add_right _ _)) | with_reducible refine Nat.le_trans ?_ (Nat.le_add_right _ _) | (with_reducible refine bstep ?_ (by assumption))))); obtain ⟨kc1, kf1, kz1, ky1, kx1, kv1, ku1⟩ := bcell hb1)
  have q1_h_0 : w1.cell? ⟨w.heap.size, 0, none⟩ = some (.int .i64 0) := by rw [kc1 _ _ (by first | assumption | (simp; done) | (simp; omega) | omega)]; simp [go_sem]
  have r1_h_0 : w1.frozen? ⟨w.heap.size, 0, none⟩ = false := by rw [kf1 _ _ (by first | assumption | (simp; done) | (simp; omega) | omega)]; simp [go_sem]
  have q1_h_1 : w1.cell? ⟨w.heap.size, 1, none⟩ = some (.int .i64 0) := by rw [kc1 _ _ (by first | assumption | (simp; done) | (simp; omega) | omega)]; simp [go_sem]
  have r1_h_1 : w1.frozen? ⟨w.heap.size, 1, none⟩ = false := by rw [kf1 _ _ (by first | assumption | (simp; done) | (simp; omega) | omega)]; simp [go_sem]
  have z1_h : w.heap.size < w1.heap.size := kz1 _ (by first | assumption | (simp; done) | (simp; omega) | omega)
  clear kc1 kf1 kz1 ky1 kx1 kv1 ku1 hb1
  go_wp2_with (go_at_call 67; refine (whole_is_spec _ _).mono ?_; rintro e w2 ⟨rfl, rfl⟩)
  have ha0 : Below w.heap.size w w1 := ha1
  go_loopw [16] (fun i wr => ∃ k : Nat, k ≤ l.length ∧ i = .int .i64 k ∧ ∃ x y : Int, Hid (amB x y = true) ∧ Hid (sumL (wayL (l.drop k)) x y = sumL (wayL l) 0 1) ∧ wr.cell? ⟨w1.heap.size + 1, 0, none⟩ = some (.int .i64 x) ∧ wr.cell? ⟨w1.heap.size + 1, 1, none⟩ = some (.int .i64 y) ∧
      wr.frozen? ⟨w1.heap.size + 1, 0, none⟩ = false ∧ wr.frozen? ⟨w1.heap.size + 1, 1, none⟩ = false ∧ wr.cell? ⟨w.heap.size, 0, none⟩ = some (.int .i64 0) ∧ wr.cell? ⟨w.heap.size, 1, none⟩ = some (.int .i64 0) ∧
      wr.frozen? ⟨w.heap.size, 0, none⟩ = false ∧ wr.frozen? ⟨w.heap.size, 1, none⟩ = false ∧ w1.heap.size + 1 < wr.heap.size ∧ Below w.heap.size w wr) (fun i _ => l.length - (intOf i).toNat)
  case atStart =>
    refine ⟨0, Nat.zero_le _, rfl, 0, 1, am_whole 0 (by omega) (by omega), rfl, by simp [go_sem], by simp [go_sem], by simp [go_sem], by simp [go_sem], by simp [go_sem, q1_h_0, z1_h], by simp [go_sem, q1_h_1, z1_h], by simp [go_sem, r1_h_0, z1_h], by simp [go_sem, r1_h_1, z1_h], by simp, ?_⟩
    (repeat (first | with_reducible exact Below.refl _ _ | with_reducible assumption | with_reducible refine balloc ?_ _ | with_reducible refine bdrew ?_ | with_reducible refine bset ?_ ?_ _ | with_reducible exact Nat.le_refl _ | with_reducible refine bsize ?_ | (dsimp only; refine Nat.le_trans ?_ (Nat.le_add_right _ _)) | with_reducible refine Nat.le_trans ?_ (Nat.le_add_right _ _) | (with_reducible refine bstep ?_ (by assumption))))
  case round =>
    obtain ⟨k, hk, rfl, x, y, hxy, hfold, s1, s2, s3, s4, r1, r2, r3, r4, hs, hbel⟩ := hrel
    have z1 : w.heap.size < wr.heap.size := by omega
    have nb : w.heap.size ≠ w1.heap.size + 1 := by omega
    have lb : w.heap.size ≤ w1.heap.size + 1 := by omega
    clear q1_h_0 q1_h_1 r1_h_0 r1_h_1 z1_h
    by_cases hlt : k < l.length
    · obtain ⟨p, hp⟩ : ∃ p, l[k]? = some p := ⟨_, List.getElem?_eq_getElem hlt⟩
      have hc := (liesG_below hL hbel).hcell k p hp
      have hso := step_of HS.out hp
      have hdrop := drop_cons l k p hp
      obtain ⟨pk, pn, pd⟩ := p
      have e0 := hc 0 pk rfl
      rw [Nat.add_zero] at e0
      have e1 : wr.cell? ⟨(a.add (k * 3)).block, (a.add (k * 3)).off + 1, none⟩ = some (.int .i64 pn) := by
        have h := hc 1 pn rfl
        rw [← Deep.add_add] at h
        exact h
      have e2 : wr.cell? ⟨(a.add (k * 3)).block, (a.add (k * 3)).off + 2, none⟩ = some (.int .i64 pd) := by
        have h := hc 2 pd rfl
        rw [← Deep.add_add] at h
        exact h
      have hxa := am_of x y hxy.out
      have hpm : amB pn pd = true := hso.2.1
      have hpa := am_of pn pd hpm
      clear hc hso hp
      by_cases hk1 : pk ≤ 1
      · have hstep : Hid ((if lowB (x * pd + pn * y) (y * pd) = true then sumL (wayL (l.drop (k + 1))) (lowN (x * pd + pn * y) (y * pd)) (lowD (x * pd + pn * y) (y * pd)) else none) = sumL (wayL l) 0 1) := by
          have := hfold.out
          rw [hdrop, wayL_consd _ _ hk1, sumL_cons, hpm, Bool.true_and] at this
          exact this
        have hcon := fun W => amAdd_spec x y pn pd hxa hpa W
        have hk2 : ¬ 1 < pk := by omega
        clear hdrop hxa hpa hpm hfold hk1
        cases hB : lowB (x * pd + pn * y) (y * pd)
        · have hnone : Hid (sumL (wayL l) 0 1 = none) := by
            have h := hstep.out
            rw [hB] at h
            have h2 : sumL (wayL l) 0 1 = none := by simpa using h.symm
            exact h2
          have HC := Lib.hid hcon
          clear hcon hstep
          go_wp2_with fail
          refine (HC.out _).mono ?_
          rintro e w3 ⟨rfl, hb3⟩
          rw [hB]
          obtain ⟨kc3, kf3, kz3, ky3, kx3, kv3, ku3⟩ := bcell hb3
          have ha3 : Below w.heap.size w w3 := by (repeat (first | with_reducible exact Below.refl _ _ | with_reducible assumption | with_reducible refine balloc ?_ _ | with_reducible refine bdrew ?_ | with_reducible refine bset ?_ ?_ _ | with_reducible exact Nat.le_refl _ | with_reducible refine bsize ?_ | (dsimp only; refine Nat.le_trans ?_ (Nat.le_add_right _ _)) | with_reducible refine Nat.le_trans ?_ (Nat.le_add_right _ _) | (with_reducible refine bstep ?_ (by assumption))))
          have q3_h_0 : w3.cell? ⟨w.heap.size, 0, none⟩ = some (.int .i64 0) := by rw [kc3 _ _ (by first | assumption | (simp; done) | (simp; omega) | omega)]; simp [go_sem, s1, s2, s3, s4, r1, r2, r3, r4, z1, hs]
          have r3_h_0 : w3.frozen? ⟨w.heap.size, 0, none⟩ = false := by rw [kf3 _ _ (by first | assumption | (simp; done) | (simp; omega) | omega)]; simp [go_sem, s1, s2, s3, s4, r1, r2, r3, r4, z1, hs]
          have q3_h_1 : w3.cell? ⟨w.heap.size, 1, none⟩ = some (.int .i64 0) := by rw [kc3 _ _ (by first | assumption | (simp; done) | (simp; omega) | omega)]; simp [go_sem, s1, s2, s3, s4, r1, r2, r3, r4, z1, hs]
          have r3_h_1 : w3.frozen? ⟨w.heap.size, 1, none⟩ = false := by rw [kf3 _ _ (by first | assumption | (simp; done) | (simp; omega) | omega)]; simp [go_sem, s1, s2, s3, s4, r1, r2, r3, r4, z1, hs]
          have z3_h : w.heap.size < w3.heap.size := kz3 _ (by first | assumption | (simp; done) | (simp; omega) | omega)
          clear kc3 kf3 kz3 ky3 kx3 kv3 ku3 hb3 s1 s2 s3 s4 r1 r2 r3 r4 z1 hs
          go_wp2
          rw [hnone.out]
          refine bodyPost_ret (v := .tuple #[.agg #[.int .i64 0, .int .i64 0], .bool false]) (by simp only [results, Try.results44]; go_simp) rfl ⟨rfl, ?_⟩
          (repeat (first | with_reducible exact Below.refl _ _ | with_reducible assumption | with_reducible refine balloc ?_ _ | with_reducible refine bdrew ?_ | with_reducible refine bset ?_ ?_ _ | with_reducible exact Nat.le_refl _ | with_reducible refine bsize ?_ | (dsimp only; refine Nat.le_trans ?_ (Nat.le_add_right _ _)) | with_reducible refine Nat.le_trans ?_ (Nat.le_add_right _ _) | (with_reducible refine bstep ?_ (by assumption))))
        · have hnew := Lib.hid (amB_low _ _ hB)
          have hnext : Hid (sumL (wayL (l.drop (k + 1))) (lowN (x * pd + pn * y) (y * pd)) (lowD (x * pd + pn * y) (y * pd)) = sumL (wayL l) 0 1) := by
            have h := hstep.out
            rw [hB] at h
            have h2 : sumL (wayL (l.drop (k + 1))) (lowN (x * pd + pn * y) (y * pd)) (lowD (x * pd + pn * y) (y * pd)) = sumL (wayL l) 0 1 := by simpa using h
            exact h2
          have HC := Lib.hid hcon
          clear hcon hstep
          go_wp2_with fail
          refine (HC.out _).mono ?_
          rintro e w3 ⟨rfl, hb3⟩
          rw [hB]
          obtain ⟨kc3, kf3, kz3, ky3, kx3, kv3, ku3⟩ := bcell hb3
          have ha3 : Below w.heap.size w w3 := by (repeat (first | with_reducible exact Below.refl _ _ | with_reducible assumption | with_reducible refine balloc ?_ _ | with_reducible refine bdrew ?_ | with_reducible refine bset ?_ ?_ _ | with_reducible exact Nat.le_refl _ | with_reducible refine bsize ?_ | (dsimp only; refine Nat.le_trans ?_ (Nat.le_add_right _ _)) | with_reducible refine Nat.le_trans ?_ (Nat.le_add_right _ _) | (with_reducible refine bstep ?_ (by assumption))))
          have q3_h_0 : w3.cell? ⟨w.heap.size, 0, none⟩ = some (.int .i64 0) := by rw [kc3 _ _ (by first | assumption | (simp; done) | (simp; omega) | omega)]; simp [go_sem, s1, s2, s3, s4, r1, r2, r3, r4, z1, hs]
          have r3_h_0 : w3.frozen? ⟨w.heap.size, 0, none⟩ = false := by rw [kf3 _ _ (by first | assumption | (simp; done) | (simp; omega) | omega)]; simp [go_sem, s1, s2, s3, s4, r1, r2, r3, r4, z1, hs]
          have q3_h_1 : w3.cell? ⟨w.heap.size, 1, none⟩ = some (.int .i64 0) := by rw [kc3 _ _ (by first | assumption | (simp; done) | (simp; omega) | omega)]; simp [go_sem, s1, s2, s3, s4, r1, r2, r3, r4, z1, hs]
          have r3_h_1 : w3.frozen? ⟨w.heap.size, 1, none⟩ = false := by rw [kf3 _ _ (by first | assumption | (simp; done) | (simp; omega) | omega)]; simp [go_sem, s1, s2, s3, s4, r1, r2, r3, r4, z1, hs]
          have z3_h : w.heap.size < w3.heap.size := kz3 _ (by first | assumption | (simp; done) | (simp; omega) | omega)
          have q3_w1_1_0 : w3.cell? ⟨w1.heap.size + 1, 0, none⟩ = some (.int .i64 x) := by rw [kc3 _ _ (by first | assumption | (simp; done) | (simp; omega) | omega)]; simp [go_sem, s1, s2, s3, s4, r1, r2, r3, r4, z1, hs]
          have r3_w1_1_0 : w3.frozen? ⟨w1.heap.size + 1, 0, none⟩ = false := by rw [kf3 _ _ (by first | assumption | (simp; done) | (simp; omega) | omega)]; simp [go_sem, s1, s2, s3, s4, r1, r2, r3, r4, z1, hs]
          have q3_w1_1_1 : w3.cell? ⟨w1.heap.size + 1, 1, none⟩ = some (.int .i64 y) := by rw [kc3 _ _ (by first | assumption | (simp; done) | (simp; omega) | omega)]; simp [go_sem, s1, s2, s3, s4, r1, r2, r3, r4, z1, hs]
          have r3_w1_1_1 : w3.frozen? ⟨w1.heap.size + 1, 1, none⟩ = false := by rw [kf3 _ _ (by first | assumption | (simp; done) | (simp; omega) | omega)]; simp [go_sem, s1, s2, s3, s4, r1, r2, r3, r4, z1, hs]
          have z3_w1_1 : w1.heap.size + 1 < w3.heap.size := kz3 _ (by first | assumption | (simp; done) | (simp; omega) | omega)
          clear kc3 kf3 kz3 ky3 kx3 kv3 ku3 hb3 s1 s2 s3 s4 r1 r2 r3 r4 z1 hs
          go_wp2
          go_roundw
          case rel =>
            refine ⟨k + 1, by omega, by go_num, _, _, hnew, hnext, by simp [go_sem, q3_w1_1_0, q3_w1_1_1, z3_w1_1], by simp [go_sem, q3_w1_1_0, q3_w1_1_1, z3_w1_1], by simp [go_sem, r3_w1_1_0, z3_w1_1], by simp [go_sem, r3_w1_1_1, z3_w1_1], by simp [go_sem, q3_h_0, z3_h, nb], by simp [go_sem, q3_h_1, z3_h, nb], by simp [go_sem, r3_h_0, z3_h, nb], by simp [go_sem, r3_h_1, z3_h, nb], by simp; omega, ?_⟩
            (repeat (first | with_reducible exact Below.refl _ _ | with_reducible assumption | with_reducible refine balloc ?_ _ | with_reducible refine bdrew ?_ | with_reducible refine bset ?_ ?_ _ | with_reducible exact Nat.le_refl _ | with_reducible refine bsize ?_ | (dsimp only; refine Nat.le_trans ?_ (Nat.le_add_right _ _)) | with_reducible refine Nat.le_trans ?_ (Nat.le_add_right _ _) | (with_reducible refine bstep ?_ (by assumption))))
          case measure => simp [intOf]; omega
      · have hnext : Hid (sumL (wayL (l.drop (k + 1))) x y = sumL (wayL l) 0 1) := by
          have := hfold.out
          rw [hdrop, wayL_conse _ _ hk1] at this
          exact this
        have hk2 : 1 < pk := by omega
        clear hdrop hxa hpa hpm hfold hk1
        go_wp2
        go_roundw
        case rel =>
          refine ⟨k + 1, by omega, by go_num, x, y, hxy, hnext, by simp [go_sem, s1, hs], by simp [go_sem, s2, hs], by simp [go_sem, s3, hs], by simp [go_sem, s4, hs], by simp [go_sem, r1, z1], by simp [go_sem, r2, z1], by simp [go_sem, r3, z1], by simp [go_sem, r4, z1], by simp; omega, ?_⟩
          (repeat (first | with_reducible exact Below.refl _ _ | with_reducible assumption | with_reducible refine balloc ?_ _ | with_reducible refine bdrew ?_ | with_reducible refine bset ?_ ?_ _ | with_reducible exact Nat.le_refl _ | with_reducible refine bsize ?_ | (dsimp only; refine Nat.le_trans ?_ (Nat.le_add_right _ _)) | with_reducible refine Nat.le_trans ?_ (Nat.le_add_right _ _) | (with_reducible refine bstep ?_ (by assumption))))
        case measure => simp [intOf]; omega
    · have hkl : k = l.length := by omega
      subst hkl
      have hfin : sumL (wayL l) 0 1 = some (x, y) := by
        have := hfold.out
        rw [List.drop_length] at this
        exact this.symm
      have HF := Lib.hid hfin
      clear hfin hfold
      go_wp2
      rw [HF.out]
      refine bodyPost_ret (v := .tuple #[.agg #[.int .i64 x, .int .i64 y], .bool true]) (by simp only [results, Try.results44]; go_simp) rfl ⟨rfl, ?_⟩
      (repeat (first | with_reducible exact Below.refl _ _ | with_reducible assumption | with_reducible refine balloc ?_ _ | with_reducible refine bdrew ?_ | with_reducible refine bset ?_ ?_ _ | with_reducible exact Nat.le_refl _ | with_reducible refine bsize ?_ | (dsimp only; refine Nat.le_trans ?_ (Nat.le_add_right _ _)) | with_reducible refine Nat.le_trans ?_ (Nat.le_add_right _ _) | (with_reducible refine bstep ?_ (by assumption))))

theorem driven_spec_no (a : Addr) (cap : Nat) (l : List StepV) (w : World) (hL : LiesG 3 fStep w a cap l) (hs : stepsB l = false) :
    Calls Try.prog 44 #[.slice (some a) l.length cap] w fun e w' => e = .returned (.tuple #[.agg #[.int .i64 0, .int .i64 0], .bool false]) ∧ Below w.heap.size w w' := by
  have hcon := fun W (hb : Below w.heap.size w W) => tpSteps_spec a cap l W (liesG_below hL hb)
  rw [hs] at hcon
  have HC := Lib.hid hcon
  clear hcon hs
  go_enter Try.func44, Try.ntmps44
  (go_wp2_with fail; refine (HC.out _ (by (repeat (first | with_reducible exact Below.refl _ _ | with_reducible assumption | with_reducible refine balloc ?_ _ | with_reducible refine bdrew ?_ | with_reducible refine bset ?_ ?_ _ | with_reducible exact Nat.le_refl _ | with_reducible refine bsize ?_ | (dsimp only; refine Nat.le_trans ?_ (Nat.le_add_right _ _)) | with_reducible refine Nat.le_trans ?_ (Nat.le_add_right _ _) | (with_reducible refine bstep ?_ (by assumption)))))).mono ?_; rintro e w1 ⟨rfl, hb1⟩; (have ha1 : Below w.heap.size w w1 := by (repeat (first | with_reducible exact Below.refl _ _ | with_reducible assumption | with_reducible refine balloc ?_ _ | with_reducible refine bdrew ?_ | with_reducible refine bset ?_ ?_ _ | with_reducible exact Nat.le_refl _ | with_reducible refine bsize ?_ | (dsimp only; refine Nat.le_trans ?_ (Nat.le_add_right _ _)) | with_reducible refine Nat.le_trans ?_ (Nat.le_add_right _ _) | (with_reducible refine bstep ?_ (by assumption))))); obtain ⟨kc1, kf1, kz1, ky1, kx1, kv1, ku1⟩ := bcell hb1)
  have q1_h_0 : w1.cell? ⟨w.heap.size, 0, none⟩ = some (.int .i64 0) := by rw [kc1 _ _ (by first | assumption | (simp; done) | (simp; omega) | omega)]; simp [go_sem]
  have r1_h_0 : w1.frozen? ⟨w.heap.size, 0, none⟩ = false := by rw [kf1 _ _ (by first | assumption | (simp; done) | (simp; omega) | omega)]; simp [go_sem]
  have q1_h_1 : w1.cell? ⟨w.heap.size, 1, none⟩ = some (.int .i64 0) := by rw [kc1 _ _ (by first | assumption | (simp; done) | (simp; omega) | omega)]; simp [go_sem]
  have r1_h_1 : w1.frozen? ⟨w.heap.size, 1, none⟩ = false := by rw [kf1 _ _ (by first | assumption | (simp; done) | (simp; omega) | omega)]; simp [go_sem]
  have z1_h : w.heap.size < w1.heap.size := kz1 _ (by first | assumption | (simp; done) | (simp; omega) | omega)
  clear kc1 kf1 kz1 ky1 kx1 kv1 ku1 hb1
  go_wp2
  refine bodyPost_ret (v := .tuple #[.agg #[.int .i64 0, .int .i64 0], .bool false]) (by simp only [results, Try.results44]; go_simp) rfl ⟨rfl, ?_⟩
  (repeat (first | with_reducible exact Below.refl _ _ | with_reducible assumption | with_reducible refine balloc ?_ _ | with_reducible refine bdrew ?_ | with_reducible refine bset ?_ ?_ _ | with_reducible exact Nat.le_refl _ | with_reducible refine bsize ?_ | (dsimp only; refine Nat.le_trans ?_ (Nat.le_add_right _ _)) | with_reducible refine Nat.le_trans ?_ (Nat.le_add_right _ _) | (with_reducible refine bstep ?_ (by assumption))))

theorem drO_yes {l : List StepV} (h : stepsB l = true) : drO l = sumL (wayL l) 0 1 := by unfold drO; rw [if_pos h]
theorem drO_no {l : List StepV} (h : stepsB l = false) : drO l = none := by unfold drO; rw [h]; rfl
theorem driven_impl (a : Addr) (cap : Nat) (l : List StepV) (w : World) (hL : LiesG 3 fStep w a cap l) :
    Calls Try.prog 45 #[.slice (some a) l.length cap] w fun e w' => e = .returned (.tuple #[.agg #[.int .i64 (oN (drO l)), .int .i64 (oD (drO l))], .bool (oB (drO l))]) ∧ Below w.heap.size w w' := by
  cases h : stepsB l
  · rw [drO_no h]; exact driven_impl_no a cap l w hL h
  · rw [drO_yes h]; exact driven_impl_yes a cap l w hL h
theorem driven_spec (a : Addr) (cap : Nat) (l : List StepV) (w : World) (hL : LiesG 3 fStep w a cap l) :
    Calls Try.prog 44 #[.slice (some a) l.length cap] w fun e w' => e = .returned (.tuple #[.agg #[.int .i64 (oN (drO l)), .int .i64 (oD (drO l))], .bool (oB (drO l))]) ∧ Below w.heap.size w w' := by
  cases h : stepsB l
  · rw [drO_no h]; exact driven_spec_no a cap l w hL h
  · rw [drO_yes h]; exact driven_spec_yes a cap l w hL h
end Go.Proofs.Ytkpeiibncbcdhaa
