/- Camels: what is left behind a way, of the model. -/
import Derived.Test.YtgmgifgbalcngaaCam9
import Derived.Test.YtgmgifgbalcngaaLawCb
import Derived.Deep.RegionHeld3
import Derived.Deep.DeepCutAuto
namespace Go.Proofs.Ytgmgifgbalcngaa
open Go.ChangeShapes Go.WideShapes Go.ChangeAt Go.RowKit Go.Joins
set_option maxRecDepth 100000
set_option linter.unusedVariables false
set_option linter.unusedSimpArgs false

set_option maxHeartbeats 3200000 in
theorem caLeft_spec (L E n d p q : Int) (t : Nat) (H : CamIn L E d n t) (ht : trp (L * d) n = t) (p0 : 0 ≤ p) (p1 : p ≤ 1000000000) (q0 : 1 ≤ q) (q1 : q ≤ 1000000) (w : World) :
    Calls Try.prog 43 #[.agg #[.int .i64 L, .int .i64 E], .agg #[.int .i64 n, .int .i64 d], .agg #[.int .i64 p, .int .i64 q]] w fun e w' => e = .returned (.tuple #[.agg #[.int .i64 (lowN (leftAtX L E n d p q) (leftAtM L E n d p q)), .int .i64 (lowD (leftAtX L E n d p q) (leftAtM L E n d p q))], .bool (lowB (leftAtX L E n d p q) (leftAtM L E n d p q))]) ∧ Below w.heap.size w w' := by
  have HPt := Lib.hid (fun W => parts_lies L E n d t H ht W)
  have HH := Lib.hid H
  have ta := H.ht.a
  have tb := H.ht.b
  have bF := pa_bd H t (Nat.le_refl _)
  have hfar := far_iff H p q q0
  have m1 := mul_le2 p (paY L E d n t t) 1000000000 498960 p0 p1 (by omega) bF.2.2.2
  have m2 := mul_le2 (paX L E d n t t) q 937152 1000000 bF.1 bF.2.1 (by omega) q1
  have HF := Lib.hid hfar
  have hneg := left_neg L E d n p q H.L1 H.d1 q0
  have HN := Lib.hid hneg
  obtain ⟨m1, m1'⟩ := m1
  obtain ⟨m2, m2'⟩ := m2
  have HLL := Lib.hid (fun i k hi h1 h2 => left_low H p q q0 i k hi h1 h2)
  clear hfar hneg H ht bF
  generalize leftAtX L E n d p q = X at *
  generalize leftAtM L E n d p q = M at *
  generalize hfx : paX L E d n t t = fx at *
  generalize hfy : paY L E d n t t = fy at *
  have HFX := Lib.hid hfx
  have HFY := Lib.hid hfy
  clear hfx hfy
  by_cases hc : p * fy ≤ fx * q
  · have HW := Lib.hid hc
    go_enter Try.func43, Try.ntmps43
    go_upto_region 1 with fail
    change Code.wp _ _ _ _ ((((w.alloc (.cells #[.int .i64 L, .int .i64 E] 31)).alloc (.cells #[.int .i64 n, .int .i64 d] 28)).alloc (.cells #[.int .i64 p, .int .i64 q] 28)).alloc (.cells #[.int .i64 0, .int .i64 0] 28))
    generalize hV : (((w.alloc (.cells #[.int .i64 L, .int .i64 E] 31)).alloc (.cells #[.int .i64 n, .int .i64 d] 28)).alloc (.cells #[.int .i64 p, .int .i64 q] 28)).alloc (.cells #[.int .i64 0, .int .i64 0] 28) = V
    have c1 : V.cell? ⟨w.heap.size, 0, none⟩ = some (.int .i64 L) := by subst hV; simp [go_sem]
    have c2 : V.cell? ⟨w.heap.size, 1, none⟩ = some (.int .i64 E) := by subst hV; simp [go_sem]
    have c3 : V.cell? ⟨w.heap.size + 1, 0, none⟩ = some (.int .i64 n) := by subst hV; simp [go_sem]
    have c4 : V.cell? ⟨w.heap.size + 1, 1, none⟩ = some (.int .i64 d) := by subst hV; simp [go_sem]
    have c5 : V.cell? ⟨w.heap.size + 1 + 1, 0, none⟩ = some (.int .i64 p) := by subst hV; simp [go_sem]
    have c6 : V.cell? ⟨w.heap.size + 1 + 1, 1, none⟩ = some (.int .i64 q) := by subst hV; simp [go_sem]
    have r1 : V.cell? ⟨w.heap.size + 1 + 1 + 1, 0, none⟩ = some (.int .i64 0) := by subst hV; simp [go_sem]
    have r2 : V.cell? ⟨w.heap.size + 1 + 1 + 1, 1, none⟩ = some (.int .i64 0) := by subst hV; simp [go_sem]
    have r3 : V.frozen? ⟨w.heap.size + 1 + 1 + 1, 0, none⟩ = false := by subst hV; simp [go_sem]
    have r4 : V.frozen? ⟨w.heap.size + 1 + 1 + 1, 1, none⟩ = false := by subst hV; simp [go_sem]
    have hs : w.heap.size + 1 + 1 + 1 < V.heap.size := by subst hV; simp
    have hbw : Below w.heap.size w V := by subst hV; (repeat (first | with_reducible exact Below.refl _ _ | with_reducible assumption | with_reducible refine balloc ?_ _ | with_reducible refine bdrew ?_ | with_reducible refine below_drewN ?_ _ | with_reducible refine bset ?_ ?_ _ | with_reducible exact Nat.le_refl _ | with_reducible refine bsize ?_ | (dsimp only; refine Nat.le_trans ?_ (Nat.le_add_right _ _)) | with_reducible refine Nat.le_trans ?_ (Nat.le_add_right _ _) | (with_reducible refine bstep ?_ (by assumption))))
    clear hV
    go_wp2_with fail
    refine (HPt.out _).mono ?_
    rintro e w3 ⟨ga, cap, rfl, hL, hg, hg2, hb3⟩
    have f0 : Below V.heap.size V w3 := bstep (by (repeat (first | with_reducible exact Below.refl _ _ | with_reducible assumption | with_reducible refine balloc ?_ _ | with_reducible refine bdrew ?_ | with_reducible refine below_drewN ?_ _ | with_reducible refine bset ?_ ?_ _ | with_reducible exact Nat.le_refl _ | with_reducible refine bsize ?_ | (dsimp only; refine Nat.le_trans ?_ (Nat.le_add_right _ _)) | with_reducible refine Nat.le_trans ?_ (Nat.le_add_right _ _) | (with_reducible refine bstep ?_ (by assumption))))) hb3
    replace c5 := keepa f0 (by omega) c5
    replace c6 := keepa f0 (by omega) c6
    replace r1 := keepa f0 hs r1
    replace r2 := keepa f0 hs r2
    replace r3 := keepz f0 hs r3
    replace r4 := keepz f0 hs r4
    have hsz := f0.size
    replace hbw := bstep hbw f0
    have hs2 : w.heap.size + 1 + 1 < w3.heap.size := by omega
    replace hs : w.heap.size + 1 + 1 + 1 < w3.heap.size := by omega
    clear c1 c2 c3 c4 f0 hg hb3 hsz
    obtain ⟨k1, k2, k3, k4, k5, k6⟩ := part_cells0 hL 0 (by omega)
    have hx0 := (pa_zero L E d n t (by have := HH.out.dE; omega)).1
    have hy0 := (pa_zero L E d n t (by have := HH.out.dE; omega)).2
    rw [hx0] at k1
    rw [hy0] at k2
    clear hx0 hy0
    simp only [Nat.zero_mul, Nat.zero_add] at k1 k2 k3 k4 k5 k6
    have HZ := Lib.hid (pa_zero L E d n t (by have := HH.out.dE; omega))
    go_wp2
    go_loopw [36] (fun i wr => ∃ (k j : Nat), k ≤ t ∧ j < t ∧ i = .int .i64 k ∧ (j + 1 = k ∨ (k = 0 ∧ j = 0) ∨ p * paY L E d n t (j + 1) ≤ paX L E d n t (j + 1) * q) ∧ paX L E d n t j * q ≤ p * paY L E d n t j ∧
        Six wr (w3.heap.size + 1) (paX L E d n t j) (paY L E d n t j) (paG L n t j) (paH d j) (paR E t j) (((t : Int) - j - 1) * L) ∧ Below w3.heap.size w3 wr) (fun i _ => t - (intOf i).toNat)
    case atStart =>
      refine ⟨0, 0, Nat.zero_le _, by omega, rfl, Or.inr (Or.inl ⟨rfl, rfl⟩), ?_, ?_, ?_⟩
      · rw [HZ.out.1, HZ.out.2]; omega
      · rw [HZ.out.1, HZ.out.2]
        constructor <;> first | (simp [go_sem]; done) | (simp; omega)
      · (repeat (first | with_reducible exact Below.refl _ _ | with_reducible assumption | with_reducible refine balloc ?_ _ | with_reducible refine bdrew ?_ | with_reducible refine below_drewN ?_ _ | with_reducible refine bset ?_ ?_ _ | with_reducible exact Nat.le_refl _ | with_reducible refine bsize ?_ | (dsimp only; refine Nat.le_trans ?_ (Nat.le_add_right _ _)) | with_reducible refine Nat.le_trans ?_ (Nat.le_add_right _ _) | (with_reducible refine bstep ?_ (by assumption))))
    case round =>
      obtain ⟨k, j, hk, hj, rfl, hj2, hj3, hsix, hbel⟩ := hrel
      have f0 := hbel
      replace c5 := keepa f0 (by omega) c5
      replace c6 := keepa f0 (by omega) c6
      have hs3 : w.heap.size + 1 + 1 < wr.heap.size := Nat.lt_of_lt_of_le hs2 f0.size
      by_cases hlt : k < t
      · obtain ⟨k1, k2, k3, k4, k5, k6⟩ := part_cells0 (liesG_below hL hbel) k hlt
        have bX := pa_bd HH.out k hk
        have n1 := mul_le2 p (paY L E d n t k) 1000000000 498960 p0 p1 (by omega) bX.2.2.2
        have n2 := mul_le2 (paX L E d n t k) q 937152 1000000 bX.1 bX.2.1 (by omega) q1
        obtain ⟨n1, n1'⟩ := n1
        obtain ⟨n2, n2'⟩ := n2
        have HJ2 := Lib.hid hj2
        have HJ3 := Lib.hid hj3
        have HS := Lib.hid hsix
        obtain ⟨s0, s1, s2, s3, s4, s5, z0, z1, z2, z3, z4, z5, zs⟩ := hsix
        clear hj2 hj3
        by_cases hge : paX L E d n t k * q ≤ p * paY L E d n t k
        · have HG := Lib.hid hge
          go_wp2
          go_roundw
          case rel =>
            refine ⟨k + 1, k, by omega, hlt, by go_num, Or.inl rfl, HG.out, ?_, ?_⟩
            · exact (Six.set HS.out _ _ _ _ _ _).later (balloc (Below.refl _ _) _)
            · (repeat (first | with_reducible exact Below.refl _ _ | with_reducible assumption | with_reducible refine balloc ?_ _ | with_reducible refine bdrew ?_ | with_reducible refine below_drewN ?_ _ | with_reducible refine bset ?_ ?_ _ | with_reducible exact Nat.le_refl _ | with_reducible refine bsize ?_ | (dsimp only; refine Nat.le_trans ?_ (Nat.le_add_right _ _)) | with_reducible refine Nat.le_trans ?_ (Nat.le_add_right _ _) | (with_reducible refine bstep ?_ (by assumption))))
          case measure => simp [intOf]; omega
        · have hge' : p * paY L E d n t k < paX L E d n t k * q := by omega
          have HG := Lib.hid hge'
          go_wp2
          go_roundw
          case rel =>
            refine ⟨k + 1, j, by omega, hj, by go_num, ?_, HJ3.out, ?_, ?_⟩
            · have hg := HG.out
              rcases HJ2.out with e | ⟨e1, e2⟩ | e
              · right; right; rw [e]; omega
              · subst e1
                rw [HZ.out.1, HZ.out.2] at hg
                omega
              · right; right; exact e
            · exact HS.out.later (by (repeat (first | with_reducible exact Below.refl _ _ | with_reducible assumption | with_reducible refine balloc ?_ _ | with_reducible refine bdrew ?_ | with_reducible refine below_drewN ?_ _ | with_reducible refine bset ?_ ?_ _ | with_reducible exact Nat.le_refl _ | with_reducible refine bsize ?_ | (dsimp only; refine Nat.le_trans ?_ (Nat.le_add_right _ _)) | with_reducible refine Nat.le_trans ?_ (Nat.le_add_right _ _) | (with_reducible refine bstep ?_ (by assumption)))))
            · (repeat (first | with_reducible exact Below.refl _ _ | with_reducible assumption | with_reducible refine balloc ?_ _ | with_reducible refine bdrew ?_ | with_reducible refine below_drewN ?_ _ | with_reducible refine bset ?_ ?_ _ | with_reducible exact Nat.le_refl _ | with_reducible refine bsize ?_ | (dsimp only; refine Nat.le_trans ?_ (Nat.le_add_right _ _)) | with_reducible refine Nat.le_trans ?_ (Nat.le_add_right _ _) | (with_reducible refine bstep ?_ (by assumption))))
          case measure => simp [intOf]; omega
      · have hk' : k = t := by omega
        have H := HH.out
        have hk6 : (t - 1 - j) + j + 1 = t := by omega
        have hP := pa_b H j _ hk6
        have hX := pa_bd H j (by omega)
        have hbd := once_bd (paG L n t j) (paH d j) (paX L E d n t j) (paY L E d n t j) (paR E t j) p q hP.g0 (by have := hP.g1; omega) hP.h1 hP.h2 hX.1 (by omega) hX.2.2.1 (by omega) (by have := hP.r1; omega) hP.r2 p0 p1 q0 q1
        have HO := Lib.hid (fun W => once_spec _ _ _ _ _ _ _ hbd W)
        have hnext : p * paY L E d n t (j + 1) ≤ paX L E d n t (j + 1) * q := by
          have hw := HW.out
          rw [← HFX.out, ← HFY.out] at hw
          rcases hj2 with e | ⟨e1, e2⟩ | e
          · rw [e, hk']; exact hw
          · omega
          · exact e
        have hl := HLL.out j _ hk6 hj3 hnext
        obtain ⟨_, _, _, _, _, b3, b4⟩ := hbd
        have hS1 := Int.mul_pos (show 0 < paY L E d n t j by omega) (show 0 < paH d j by have := hP.h1; omega)
        obtain ⟨d1, _, _, _, _⟩ := rd_bd (paG L n t j * paY L E d n t j + paR E t j * paX L E d n t j * paH d j) (paY L E d n t j * paH d j) (by omega)
        have d2 := Int.mul_pos (show 0 < rdD (paG L n t j * paY L E d n t j + paR E t j * paX L E d n t j * paH d j) (paY L E d n t j * paH d j) by omega) (show 0 < q by omega)
        have HM := Lib.hid (fun W => made_spec _ _ (by omega) b4.2 b3.2 W)
        rw [hl.1, hl.2.1, hl.2.2] at HM
        clear hl b3 b4 d1 d2 hS1 hP hX hnext hj2 hj3 H hk6
        generalize rdN (paG L n t j * paY L E d n t j + paR E t j * paX L E d n t j * paH d j) (paY L E d n t j * paH d j) * q - paR E t j * p * rdD (paG L n t j * paY L E d n t j + paR E t j * paX L E d n t j * paH d j) (paY L E d n t j * paH d j) = Y at *
        generalize rdD (paG L n t j * paY L E d n t j + paR E t j * paX L E d n t j * paH d j) (paY L E d n t j * paH d j) * q = Z at *
        obtain ⟨s0, s1, s2, s3, s4, s5, z0, z1, z2, z3, z4, z5, zs⟩ := hsix
        replace r1 := keepa hbel hs r1
        replace r2 := keepa hbel hs r2
        replace r3 := keepz hbel hs r3
        replace r4 := keepz hbel hs r4
        replace hs := Nat.lt_of_lt_of_le hs hbel.size
        go_wp2_with fail
        refine (HO.out _).mono ?_
        rintro e w4 ⟨rfl, hb4⟩
        have rb : Below wr.heap.size wr w4 := bstep (by (repeat (first | with_reducible exact Below.refl _ _ | with_reducible assumption | with_reducible refine balloc ?_ _ | with_reducible refine bdrew ?_ | with_reducible refine below_drewN ?_ _ | with_reducible refine bset ?_ ?_ _ | with_reducible exact Nat.le_refl _ | with_reducible refine bsize ?_ | (dsimp only; refine Nat.le_trans ?_ (Nat.le_add_right _ _)) | with_reducible refine Nat.le_trans ?_ (Nat.le_add_right _ _) | (with_reducible refine bstep ?_ (by assumption))))) hb4
        replace r1 := keepa rb hs r1
        replace r2 := keepa rb hs r2
        replace r3 := keepz rb hs r3
        replace r4 := keepz rb hs r4
        replace hs := Nat.lt_of_lt_of_le hs rb.size
        have hb' : Below w.heap.size w w4 := bstep (bstep hbw hbel) rb
        clear rb
        go_wp2_with fail
        refine (HM.out _).mono ?_
        rintro e w5 ⟨rfl, hb5⟩
        have rb : Below w4.heap.size w4 w5 := bstep (by (repeat (first | with_reducible exact Below.refl _ _ | with_reducible assumption | with_reducible refine balloc ?_ _ | with_reducible refine bdrew ?_ | with_reducible refine below_drewN ?_ _ | with_reducible refine bset ?_ ?_ _ | with_reducible exact Nat.le_refl _ | with_reducible refine bsize ?_ | (dsimp only; refine Nat.le_trans ?_ (Nat.le_add_right _ _)) | with_reducible refine Nat.le_trans ?_ (Nat.le_add_right _ _) | (with_reducible refine bstep ?_ (by assumption))))) hb5
        replace r1 := keepa rb hs r1
        replace r2 := keepa rb hs r2
        replace r3 := keepz rb hs r3
        replace r4 := keepz rb hs r4
        replace hs := Nat.lt_of_lt_of_le hs rb.size
        have hb'' : Below w.heap.size w w5 := bstep hb' rb
        clear rb
        go_wp2
        refine bodyPost_ret (v := .tuple #[.agg #[.int .i64 (lowN X M), .int .i64 (lowD X M)], .bool (lowB X M)]) (by simp only [results, Try.results43]; go_simp) rfl ⟨rfl, ?_⟩
        (repeat (first | with_reducible exact Below.refl _ _ | with_reducible assumption | with_reducible refine balloc ?_ _ | with_reducible refine bdrew ?_ | with_reducible refine below_drewN ?_ _ | with_reducible refine bset ?_ ?_ _ | with_reducible exact Nat.le_refl _ | with_reducible refine bsize ?_ | (dsimp only; refine Nat.le_trans ?_ (Nat.le_add_right _ _)) | with_reducible refine Nat.le_trans ?_ (Nat.le_add_right _ _) | (with_reducible refine bstep ?_ (by assumption))))
  · have hX := HN.out (by have := HF.out; omega)
    obtain ⟨z1, z2, z3⟩ := low_neg _ M hX
    rw [z1, z2, z3]
    clear z1 z2 z3 hX
    have hc' : fx * q < p * fy := by omega
    go_enter Try.func43, Try.ntmps43
    go_upto_region 1 with fail
    change Code.wp _ _ _ _ ((((w.alloc (.cells #[.int .i64 L, .int .i64 E] 31)).alloc (.cells #[.int .i64 n, .int .i64 d] 28)).alloc (.cells #[.int .i64 p, .int .i64 q] 28)).alloc (.cells #[.int .i64 0, .int .i64 0] 28))
    generalize hV : (((w.alloc (.cells #[.int .i64 L, .int .i64 E] 31)).alloc (.cells #[.int .i64 n, .int .i64 d] 28)).alloc (.cells #[.int .i64 p, .int .i64 q] 28)).alloc (.cells #[.int .i64 0, .int .i64 0] 28) = V
    have c1 : V.cell? ⟨w.heap.size, 0, none⟩ = some (.int .i64 L) := by subst hV; simp [go_sem]
    have c2 : V.cell? ⟨w.heap.size, 1, none⟩ = some (.int .i64 E) := by subst hV; simp [go_sem]
    have c3 : V.cell? ⟨w.heap.size + 1, 0, none⟩ = some (.int .i64 n) := by subst hV; simp [go_sem]
    have c4 : V.cell? ⟨w.heap.size + 1, 1, none⟩ = some (.int .i64 d) := by subst hV; simp [go_sem]
    have c5 : V.cell? ⟨w.heap.size + 1 + 1, 0, none⟩ = some (.int .i64 p) := by subst hV; simp [go_sem]
    have c6 : V.cell? ⟨w.heap.size + 1 + 1, 1, none⟩ = some (.int .i64 q) := by subst hV; simp [go_sem]
    have r1 : V.cell? ⟨w.heap.size + 1 + 1 + 1, 0, none⟩ = some (.int .i64 0) := by subst hV; simp [go_sem]
    have r2 : V.cell? ⟨w.heap.size + 1 + 1 + 1, 1, none⟩ = some (.int .i64 0) := by subst hV; simp [go_sem]
    have r3 : V.frozen? ⟨w.heap.size + 1 + 1 + 1, 0, none⟩ = false := by subst hV; simp [go_sem]
    have r4 : V.frozen? ⟨w.heap.size + 1 + 1 + 1, 1, none⟩ = false := by subst hV; simp [go_sem]
    have hs : w.heap.size + 1 + 1 + 1 < V.heap.size := by subst hV; simp
    have hbw : Below w.heap.size w V := by subst hV; (repeat (first | with_reducible exact Below.refl _ _ | with_reducible assumption | with_reducible refine balloc ?_ _ | with_reducible refine bdrew ?_ | with_reducible refine below_drewN ?_ _ | with_reducible refine bset ?_ ?_ _ | with_reducible exact Nat.le_refl _ | with_reducible refine bsize ?_ | (dsimp only; refine Nat.le_trans ?_ (Nat.le_add_right _ _)) | with_reducible refine Nat.le_trans ?_ (Nat.le_add_right _ _) | (with_reducible refine bstep ?_ (by assumption))))
    clear hV
    go_wp2_with fail
    refine (HPt.out _).mono ?_
    rintro e w3 ⟨ga, cap, rfl, hL, hg, hg2, hb3⟩
    have f0 : Below V.heap.size V w3 := bstep (by (repeat (first | with_reducible exact Below.refl _ _ | with_reducible assumption | with_reducible refine balloc ?_ _ | with_reducible refine bdrew ?_ | with_reducible refine below_drewN ?_ _ | with_reducible refine bset ?_ ?_ _ | with_reducible exact Nat.le_refl _ | with_reducible refine bsize ?_ | (dsimp only; refine Nat.le_trans ?_ (Nat.le_add_right _ _)) | with_reducible refine Nat.le_trans ?_ (Nat.le_add_right _ _) | (with_reducible refine bstep ?_ (by assumption))))) hb3
    replace c5 := keepa f0 (by omega) c5
    replace c6 := keepa f0 (by omega) c6
    replace r1 := keepa f0 hs r1
    replace r2 := keepa f0 hs r2
    replace r3 := keepz f0 hs r3
    replace r4 := keepz f0 hs r4
    have hsz := f0.size
    replace hbw := bstep hbw f0
    have hs2 : w.heap.size + 1 + 1 < w3.heap.size := by omega
    replace hs : w.heap.size + 1 + 1 + 1 < w3.heap.size := by omega
    clear c1 c2 c3 c4 f0 hg hb3 hsz
    go_wp2
    refine bodyPost_ret (v := .tuple #[.agg #[.int .i64 0, .int .i64 0], .bool false]) (by simp only [results, Try.results43]; go_simp) rfl ⟨rfl, ?_⟩
    (repeat (first | with_reducible exact Below.refl _ _ | with_reducible assumption | with_reducible refine balloc ?_ _ | with_reducible refine bdrew ?_ | with_reducible refine below_drewN ?_ _ | with_reducible refine bset ?_ ?_ _ | with_reducible exact Nat.le_refl _ | with_reducible refine bsize ?_ | (dsimp only; refine Nat.le_trans ?_ (Nat.le_add_right _ _)) | with_reducible refine Nat.le_trans ?_ (Nat.le_add_right _ _) | (with_reducible refine bstep ?_ (by assumption))))
end Go.Proofs.Ytgmgifgbalcngaa
