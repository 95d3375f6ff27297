/- The contract of the model's SumAmounts, over a slice of amounts wherever it lies. -/
import Derived.Test.YtifmijpipeekfaaAddUp
namespace Go.Proofs.Ytifmijpipeekfaa
open Go.RowKit
set_option linter.unusedVariables false
set_option linter.unusedSimpArgs false

set_option maxHeartbeats 1600000 in
theorem sum_spec (b off cap : Nat) (l : List (Int × Int)) (w : World) (hb : b < w.heap.size) (hlc : l.length ≤ cap) (hcap : cap ≤ 9223372036854775807)
    (hcell : ∀ i p, l[i]? = some p → w.cell? ⟨b, off + i * 2, none⟩ = some (.int .i64 p.1) ∧ w.cell? ⟨b, off + i * 2 + 1, none⟩ = some (.int .i64 p.2))
    (hbd : ∀ p ∈ l, (-9223372036854775808 ≤ p.1 ∧ p.1 ≤ 9223372036854775807) ∧ -9223372036854775808 ≤ p.2 ∧ p.2 ≤ 9223372036854775807) (h50 : l.length ≤ 50) :
    Calls Try.prog 19 #[.slice (some ⟨b, off, none⟩) l.length cap] w fun e w' => e = .returned (.tuple #[.agg #[.int .i64 (oN (sumL l 0 1)), .int .i64 (oD (sumL l 0 1))], .bool (oB (sumL l 0 1))]) ∧ Below w.heap.size w w' := by
  go_enter Try.func19, Try.ntmps19
  go_wp2_with (go_at_call 61; refine (whole_is_spec _ _).mono ?_; rintro e w1 ⟨rfl, rfl⟩)
  go_loopw [16] (fun i wr => ∃ k : Nat, k ≤ l.length ∧ i = .int .i64 k ∧ ∃ x y : Int, Hid (amB x y = true) ∧ Hid (sumL (l.drop k) x y = sumL l 0 1) ∧ wr.cell? ⟨w.heap.size + 1 + 1, 0, none⟩ = some (.int .i64 x) ∧ wr.cell? ⟨w.heap.size + 1 + 1, 1, none⟩ = some (.int .i64 y) ∧
      wr.frozen? ⟨w.heap.size + 1 + 1, 0, none⟩ = false ∧ wr.frozen? ⟨w.heap.size + 1 + 1, 1, none⟩ = false ∧ wr.cell? ⟨w.heap.size, 0, none⟩ = some (.int .i64 0) ∧ wr.cell? ⟨w.heap.size, 1, none⟩ = some (.int .i64 0) ∧
      wr.frozen? ⟨w.heap.size, 0, none⟩ = false ∧ wr.frozen? ⟨w.heap.size, 1, none⟩ = false ∧ w.heap.size + 1 + 1 < wr.heap.size ∧ Below w.heap.size w wr) (fun i _ => l.length - (intOf i).toNat)
  case atStart =>
    refine ⟨0, Nat.zero_le _, rfl, 0, 1, am_whole 0 (by omega) (by omega), rfl, by simp [go_sem], by simp [go_sem], by simp [go_sem], by simp [go_sem], by simp [go_sem], by simp [go_sem], by simp [go_sem], by simp [go_sem], by simp, ?_⟩
    (repeat (first | with_reducible exact Below.refl _ _ | with_reducible assumption | with_reducible refine balloc ?_ _ | with_reducible refine bdrew ?_ | with_reducible refine below_drewN ?_ _ | with_reducible refine bset ?_ ?_ _ | with_reducible exact Nat.le_refl _ | with_reducible refine bsize ?_ | (dsimp only; refine Nat.le_trans ?_ (Nat.le_add_right _ _)) | with_reducible refine Nat.le_trans ?_ (Nat.le_add_right _ _) | (with_reducible refine bstep ?_ (by assumption))))
  case round =>
    obtain ⟨k, hk, rfl, x, y, hxy, hfold, s1, s2, s3, s4, r1, r2, r3, r4, hs, hbel⟩ := hrel
    by_cases hlt : k < l.length
    · obtain ⟨p, hp⟩ : ∃ p, l[k]? = some p := ⟨_, List.getElem?_eq_getElem hlt⟩
      obtain ⟨c1, c2⟩ := hcell k p hp
      have e1 : wr.cell? ⟨b, off + k * 2, none⟩ = some (.int .i64 p.1) := by rw [hbel.cell (p := ⟨b, off + k * 2, none⟩) hb]; exact c1
      have e2 : wr.cell? ⟨b, off + k * 2 + 1, none⟩ = some (.int .i64 p.2) := by rw [hbel.cell (p := ⟨b, off + k * 2 + 1, none⟩) hb]; exact c2
      obtain ⟨bp, bq⟩ := hbd p (List.mem_of_getElem? hp)
      have hxa := am_of x y hxy.out
      have bx : -9223372036854775808 ≤ x ∧ x ≤ 9223372036854775807 := by have := hxa.a; have := hxa.b; omega
      have byy : -9223372036854775808 ≤ y ∧ y ≤ 9223372036854775807 := by have := hxa.c; have := hxa.d; omega
      have hdrop : l.drop k = p :: l.drop (k + 1) := by
        rw [List.drop_eq_getElem_cons hlt]
        rw [List.getElem?_eq_getElem hlt] at hp
        injection hp with hp
        rw [hp]
      have hokk : okk x y p.1 p.2 = amB p.1 p.2 := by simp [okk, hxy.out]
      have hstep : Hid ((if (amB p.1 p.2 && lowB (x * p.2 + p.1 * y) (y * p.2)) = true then sumL (l.drop (k + 1)) (lowN (x * p.2 + p.1 * y) (y * p.2)) (lowD (x * p.2 + p.1 * y) (y * p.2)) else none) = sumL l 0 1) := by
        have := hfold.out
        rw [hdrop] at this
        exact this
      clear hdrop hcell c1 c2 hp hfold hokk
      cases hG : amB p.1 p.2
      · have hnone : Hid (sumL l 0 1 = none) := by
          have h := hstep.out
          rw [hG] at h
          have h2 : sumL l 0 1 = none := by simpa using h.symm
          exact h2
        clear hstep hxa
        go_wp2_with fail
        refine (good_spec _ _ _).mono ?_
        rintro e w3 ⟨rfl, hb3⟩
        rw [hG]
        obtain ⟨kc3, kf3, kz3, ky3, kx3, kv3, ku3⟩ := bcell hb3
        have z1 : w.heap.size < wr.heap.size := by omega
        have q0 : w3.cell? ⟨w.heap.size, 0, none⟩ = some (.int .i64 0) := by rw [kc3 _ _ (by simp; omega)]; simp [go_sem, r1, z1]
        have q1 : w3.cell? ⟨w.heap.size, 1, none⟩ = some (.int .i64 0) := by rw [kc3 _ _ (by simp; omega)]; simp [go_sem, r2, z1]
        have q2 : w3.frozen? ⟨w.heap.size, 0, none⟩ = false := by rw [kf3 _ _ (by simp; omega)]; simp [go_sem, r3, z1]
        have q3 : w3.frozen? ⟨w.heap.size, 1, none⟩ = false := by rw [kf3 _ _ (by simp; omega)]; simp [go_sem, r4, z1]
        clear kc3 kf3 kz3 ky3 kx3 kv3 ku3
        go_wp2
        rw [hnone.out]
        refine bodyPost_ret (v := .tuple #[.agg #[.int .i64 0, .int .i64 0], .bool false]) (by simp only [results, Try.results19]; go_simp) rfl ⟨rfl, ?_⟩
        (repeat (first | with_reducible exact Below.refl _ _ | with_reducible assumption | with_reducible refine balloc ?_ _ | with_reducible refine bdrew ?_ | with_reducible refine below_drewN ?_ _ | with_reducible refine bset ?_ ?_ _ | with_reducible exact Nat.le_refl _ | with_reducible refine bsize ?_ | (dsimp only; refine Nat.le_trans ?_ (Nat.le_add_right _ _)) | with_reducible refine Nat.le_trans ?_ (Nat.le_add_right _ _) | (with_reducible refine bstep ?_ (by assumption))))
      have hpa := am_of _ _ hG
      have hcon := fun W => amAdd_spec x y p.1 p.2 hxa hpa W
      have hG' := Lib.hid hG
      have hGood : ∀ W, Calls Try.prog 62 #[.agg #[.int .i64 p.1, .int .i64 p.2]] W fun e w' => e = .returned (.bool true) ∧ Below W.heap.size W w' := fun W => by
        have := good_spec p.1 p.2 W
        rw [hG] at this
        exact this
      have HGd := Lib.hid hGood
      clear hG hxa hpa hGood
      cases hB : lowB (x * p.2 + p.1 * y) (y * p.2)
      · have hnone : Hid (sumL l 0 1 = none) := by
          have h := hstep.out
          rw [hG'.out, hB] at h
          have h2 : sumL l 0 1 = none := by simpa using h.symm
          exact h2
        have HC := Lib.hid hcon
        clear hcon hstep
        go_wp2_with fail
        refine (HGd.out _).mono ?_
        rintro e w2 ⟨rfl, hb2⟩
        obtain ⟨jc2, jf2, jz2, jy2, jx2, jv2, ju2⟩ := bcell hb2
        have t1 : w.heap.size < wr.heap.size := by omega
        have t3 : w.heap.size + 1 + 1 < wr.heap.size := by omega
        have p0 : w2.cell? ⟨w.heap.size, 0, none⟩ = some (.int .i64 0) := by rw [jc2 _ _ (by simp; omega)]; simp [go_sem, r1, t1]
        have p1 : w2.cell? ⟨w.heap.size, 1, none⟩ = some (.int .i64 0) := by rw [jc2 _ _ (by simp; omega)]; simp [go_sem, r2, t1]
        have p2 : w2.frozen? ⟨w.heap.size, 0, none⟩ = false := by rw [jf2 _ _ (by simp; omega)]; simp [go_sem, r3, t1]
        have p3 : w2.frozen? ⟨w.heap.size, 1, none⟩ = false := by rw [jf2 _ _ (by simp; omega)]; simp [go_sem, r4, t1]
        have p4 : w2.cell? ⟨w.heap.size + 1 + 1, 0, none⟩ = some (.int .i64 x) := by rw [jc2 _ _ (by simp; omega)]; simp [go_sem, s1, t3]
        have p5 : w2.cell? ⟨w.heap.size + 1 + 1, 1, none⟩ = some (.int .i64 y) := by rw [jc2 _ _ (by simp; omega)]; simp [go_sem, s2, t3]
        have p6 : w2.frozen? ⟨w.heap.size + 1 + 1, 0, none⟩ = false := by rw [jf2 _ _ (by simp; omega)]; simp [go_sem, s3, t3]
        have p7 : w2.frozen? ⟨w.heap.size + 1 + 1, 1, none⟩ = false := by rw [jf2 _ _ (by simp; omega)]; simp [go_sem, s4, t3]
        have t4 := jz2 w.heap.size (by simp; omega)
        have t5 := jz2 (w.heap.size + 1 + 1) (by simp; omega)
        have a1 : w2.cell? ⟨wr.heap.size, 0, none⟩ = some (.int .i64 p.1) := by rw [jc2 _ _ (by simp)]; simp [go_sem]
        have a2 : w2.cell? ⟨wr.heap.size, 1, none⟩ = some (.int .i64 p.2) := by rw [jc2 _ _ (by simp)]; simp [go_sem]
        have hbel2 : Below w.heap.size w w2 := by (repeat (first | with_reducible exact Below.refl _ _ | with_reducible assumption | with_reducible refine balloc ?_ _ | with_reducible refine bdrew ?_ | with_reducible refine below_drewN ?_ _ | with_reducible refine bset ?_ ?_ _ | with_reducible exact Nat.le_refl _ | with_reducible refine bsize ?_ | (dsimp only; refine Nat.le_trans ?_ (Nat.le_add_right _ _)) | with_reducible refine Nat.le_trans ?_ (Nat.le_add_right _ _) | (with_reducible refine bstep ?_ (by assumption))))
        clear jc2 jf2 jz2 jy2 jx2 jv2 ju2 hb2
        go_wp2_with fail
        refine (HC.out _).mono ?_
        rintro e w3 ⟨rfl, hb3⟩
        rw [hB]
        obtain ⟨kc3, kf3, kz3, ky3, kx3, kv3, ku3⟩ := bcell hb3
        have q0 : w3.cell? ⟨w.heap.size, 0, none⟩ = some (.int .i64 0) := by rw [kc3 _ _ (by omega)]; exact p0
        have q1 : w3.cell? ⟨w.heap.size, 1, none⟩ = some (.int .i64 0) := by rw [kc3 _ _ (by omega)]; exact p1
        have q2 : w3.frozen? ⟨w.heap.size, 0, none⟩ = false := by rw [kf3 _ _ (by omega)]; exact p2
        have q3 : w3.frozen? ⟨w.heap.size, 1, none⟩ = false := by rw [kf3 _ _ (by omega)]; exact p3
        have z2 := kz3 w.heap.size (by omega)
        clear kc3 kf3 kz3 ky3 kx3 kv3 ku3
        go_wp2
        rw [hnone.out]
        refine bodyPost_ret (v := .tuple #[.agg #[.int .i64 0, .int .i64 0], .bool false]) (by simp only [results, Try.results19]; go_simp) rfl ⟨rfl, ?_⟩
        (repeat (first | with_reducible exact Below.refl _ _ | with_reducible assumption | with_reducible refine balloc ?_ _ | with_reducible refine bdrew ?_ | with_reducible refine below_drewN ?_ _ | with_reducible refine bset ?_ ?_ _ | with_reducible exact Nat.le_refl _ | with_reducible refine bsize ?_ | (dsimp only; refine Nat.le_trans ?_ (Nat.le_add_right _ _)) | with_reducible refine Nat.le_trans ?_ (Nat.le_add_right _ _) | (with_reducible refine bstep ?_ (by assumption))))
      · have hnew := Lib.hid (amB_low _ _ hB)
        have hnext : Hid (sumL (l.drop (k + 1)) (lowN (x * p.2 + p.1 * y) (y * p.2)) (lowD (x * p.2 + p.1 * y) (y * p.2)) = sumL l 0 1) := by
          have h := hstep.out
          rw [hG'.out, hB] at h
          have h2 : sumL (l.drop (k + 1)) (lowN (x * p.2 + p.1 * y) (y * p.2)) (lowD (x * p.2 + p.1 * y) (y * p.2)) = sumL l 0 1 := by simpa using h
          exact h2
        have HC := Lib.hid hcon
        clear hcon hstep
        go_wp2_with fail
        refine (HGd.out _).mono ?_
        rintro e w2 ⟨rfl, hb2⟩
        obtain ⟨jc2, jf2, jz2, jy2, jx2, jv2, ju2⟩ := bcell hb2
        have t1 : w.heap.size < wr.heap.size := by omega
        have t3 : w.heap.size + 1 + 1 < wr.heap.size := by omega
        have p0 : w2.cell? ⟨w.heap.size, 0, none⟩ = some (.int .i64 0) := by rw [jc2 _ _ (by simp; omega)]; simp [go_sem, r1, t1]
        have p1 : w2.cell? ⟨w.heap.size, 1, none⟩ = some (.int .i64 0) := by rw [jc2 _ _ (by simp; omega)]; simp [go_sem, r2, t1]
        have p2 : w2.frozen? ⟨w.heap.size, 0, none⟩ = false := by rw [jf2 _ _ (by simp; omega)]; simp [go_sem, r3, t1]
        have p3 : w2.frozen? ⟨w.heap.size, 1, none⟩ = false := by rw [jf2 _ _ (by simp; omega)]; simp [go_sem, r4, t1]
        have p4 : w2.cell? ⟨w.heap.size + 1 + 1, 0, none⟩ = some (.int .i64 x) := by rw [jc2 _ _ (by simp; omega)]; simp [go_sem, s1, t3]
        have p5 : w2.cell? ⟨w.heap.size + 1 + 1, 1, none⟩ = some (.int .i64 y) := by rw [jc2 _ _ (by simp; omega)]; simp [go_sem, s2, t3]
        have p6 : w2.frozen? ⟨w.heap.size + 1 + 1, 0, none⟩ = false := by rw [jf2 _ _ (by simp; omega)]; simp [go_sem, s3, t3]
        have p7 : w2.frozen? ⟨w.heap.size + 1 + 1, 1, none⟩ = false := by rw [jf2 _ _ (by simp; omega)]; simp [go_sem, s4, t3]
        have t4 := jz2 w.heap.size (by simp; omega)
        have t5 := jz2 (w.heap.size + 1 + 1) (by simp; omega)
        have a1 : w2.cell? ⟨wr.heap.size, 0, none⟩ = some (.int .i64 p.1) := by rw [jc2 _ _ (by simp)]; simp [go_sem]
        have a2 : w2.cell? ⟨wr.heap.size, 1, none⟩ = some (.int .i64 p.2) := by rw [jc2 _ _ (by simp)]; simp [go_sem]
        have hbel2 : Below w.heap.size w w2 := by (repeat (first | with_reducible exact Below.refl _ _ | with_reducible assumption | with_reducible refine balloc ?_ _ | with_reducible refine bdrew ?_ | with_reducible refine below_drewN ?_ _ | with_reducible refine bset ?_ ?_ _ | with_reducible exact Nat.le_refl _ | with_reducible refine bsize ?_ | (dsimp only; refine Nat.le_trans ?_ (Nat.le_add_right _ _)) | with_reducible refine Nat.le_trans ?_ (Nat.le_add_right _ _) | (with_reducible refine bstep ?_ (by assumption))))
        clear jc2 jf2 jz2 jy2 jx2 jv2 ju2 hb2
        go_wp2_with fail
        refine (HC.out _).mono ?_
        rintro e w3 ⟨rfl, hb3⟩
        rw [hB]
        clear HC hB
        obtain ⟨kc3, kf3, kz3, ky3, kx3, kv3, ku3⟩ := bcell hb3
        have q0 : w3.cell? ⟨w.heap.size, 0, none⟩ = some (.int .i64 0) := by rw [kc3 _ _ (by omega)]; exact p0
        have q1 : w3.cell? ⟨w.heap.size, 1, none⟩ = some (.int .i64 0) := by rw [kc3 _ _ (by omega)]; exact p1
        have q2 : w3.frozen? ⟨w.heap.size, 0, none⟩ = false := by rw [kf3 _ _ (by omega)]; exact p2
        have q3 : w3.frozen? ⟨w.heap.size, 1, none⟩ = false := by rw [kf3 _ _ (by omega)]; exact p3
        have q4 : w3.cell? ⟨w.heap.size + 1 + 1, 0, none⟩ = some (.int .i64 x) := by rw [kc3 _ _ (by omega)]; exact p4
        have q5 : w3.cell? ⟨w.heap.size + 1 + 1, 1, none⟩ = some (.int .i64 y) := by rw [kc3 _ _ (by omega)]; exact p5
        have q6 : w3.frozen? ⟨w.heap.size + 1 + 1, 0, none⟩ = false := by rw [kf3 _ _ (by omega)]; exact p6
        have q7 : w3.frozen? ⟨w.heap.size + 1 + 1, 1, none⟩ = false := by rw [kf3 _ _ (by omega)]; exact p7
        have z2 := kz3 w.heap.size (by omega)
        have z4 := kz3 (w.heap.size + 1 + 1) (by omega)
        clear kc3 kf3 kz3 ky3 kx3 kv3 ku3
        go_wp2
        go_roundw
        case rel =>
          refine ⟨k + 1, by omega, by go_num, _, _, hnew, hnext, by simp [go_sem, q4, q5, z4], by simp [go_sem, q4, q5, z4], by simp [go_sem, q6, z4], by simp [go_sem, q7, z4], by simp [go_sem, q0, z2], by simp [go_sem, q1, z2], by simp [go_sem, q2, z2], by simp [go_sem, q3, z2], by simp; omega, ?_⟩
          (repeat (first | with_reducible exact Below.refl _ _ | with_reducible assumption | with_reducible refine balloc ?_ _ | with_reducible refine bdrew ?_ | with_reducible refine below_drewN ?_ _ | with_reducible refine bset ?_ ?_ _ | with_reducible exact Nat.le_refl _ | with_reducible refine bsize ?_ | (dsimp only; refine Nat.le_trans ?_ (Nat.le_add_right _ _)) | with_reducible refine Nat.le_trans ?_ (Nat.le_add_right _ _) | (with_reducible refine bstep ?_ (by assumption))))
        case measure => simp [intOf]; omega
    · have hkl : k = l.length := by omega
      subst hkl
      have hfin : sumL l 0 1 = some (x, y) := by
        have := hfold.out
        rw [List.drop_length] at this
        exact this.symm
      have HF := Lib.hid hfin
      clear hfin hfold hcell
      go_wp2
      rw [HF.out]
      refine bodyPost_ret (v := .tuple #[.agg #[.int .i64 x, .int .i64 y], .bool true]) (by simp only [results, Try.results19]; go_simp) rfl ⟨rfl, ?_⟩
      (repeat (first | with_reducible exact Below.refl _ _ | with_reducible assumption | with_reducible refine balloc ?_ _ | with_reducible refine bdrew ?_ | with_reducible refine below_drewN ?_ _ | with_reducible refine bset ?_ ?_ _ | with_reducible exact Nat.le_refl _ | with_reducible refine bsize ?_ | (dsimp only; refine Nat.le_trans ?_ (Nat.le_add_right _ _)) | with_reducible refine Nat.le_trans ?_ (Nat.le_add_right _ _) | (with_reducible refine bstep ?_ (by assumption))))
end Go.Proofs.Ytifmijpipeekfaa
