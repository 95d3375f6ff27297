/- The falcon's turns: FalconTurn of the program. -/
import Derived.Test.YtbaaaaceejgofaaCavP
namespace Go.Proofs.Ytbaaaaceejgofaa
open Go.ChangeShapes Go.WideShapes Go.ChangeAt Go.RowKit Go.Joins
set_option maxRecDepth 100000
set_option linter.unusedVariables false
set_option linter.unusedSimpArgs false

def ftK (l a b F n : Int) : Bool := trP l && trP a && trP b && trP F && decide (a < F ∧ b < F) && inB n 1 5
def ftOk (l a b F n : Int) : Bool := ftK l a b F n && (ftAt l a b F n.toNat).ok
def ftX (l a b F n : Int) : Int := if ftOk l a b F n = true then (ftAt l a b F n.toNat).x else 0
def ftY (l a b F n : Int) : Int := if ftOk l a b F n = true then (ftAt l a b F n.toNat).y else 0
theorem ftK_yes {l a b F n : Int} (h : ftK l a b F n = true) : (1 ≤ l ∧ l ≤ 1000) ∧ (1 ≤ a ∧ a < F) ∧ (1 ≤ b ∧ b < F) ∧ F ≤ 1000 ∧ 1 ≤ n ∧ n ≤ 5 := by
  simp [ftK, trP, inB] at h; omega
theorem ft_no {l a b F n : Int} (h : ftOk l a b F n = false) : ftX l a b F n = 0 ∧ ftY l a b F n = 0 := by
  unfold ftX ftY; rw [h]; exact ⟨rfl, rfl⟩
theorem ft_yes {l a b F n : Int} (h : ftOk l a b F n = true) : ftX l a b F n = (ftAt l a b F n.toNat).x ∧ ftY l a b F n = (ftAt l a b F n.toNat).y := by
  unfold ftX ftY; rw [if_pos h, if_pos h]; exact ⟨rfl, rfl⟩
theorem ft_fr (a b F : Int) (ha : 1 ≤ a ∧ a < F) (hb : 1 ≤ b ∧ b < F) (k : Nat) : (1 ≤ ftFr a b k ∧ ftFr a b k < F) ∧ 1 ≤ ftTo a b k ∧ ftTo a b k < F := by
  unfold ftFr ftTo; split <;> omega
set_option maxHeartbeats 25600000 in
theorem fturn_impl (l a b F n : Int) (b0 : -9223372036854775808 ≤ l ∧ l ≤ 9223372036854775807) (b1 : -9223372036854775808 ≤ a ∧ a ≤ 9223372036854775807) (b2 : -9223372036854775808 ≤ b ∧ b ≤ 9223372036854775807) (b3 : -9223372036854775808 ≤ F ∧ F ≤ 9223372036854775807) (w : World) :
    Calls Try.prog 6 #[.int .i64 l, .int .i64 a, .int .i64 b, .int .i64 F, .int .i64 n] w fun e w' => e = .returned (.tuple #[.agg #[.int .i64 (ftX l a b F n), .int .i64 (ftY l a b F n)], .bool (ftOk l a b F n)]) ∧ Below w.heap.size w w' := by
  have HT := Lib.hid (fun g W h0 h1 h2 h3 => tr4 l a b F b0 b1 b2 b3 g W h0 h1 h2 h3)
  cases hk : (trP l && trP a && trP b && trP F)
  · have hz : ftOk l a b F n = false := by simp only [ftOk, ftK, hk, Bool.false_and]
    obtain ⟨e1, e2⟩ := ft_no hz
    rw [e1, e2, hz]; clear e1 e2 hz
    rw [hk] at HT
    clear hk
    go_enter Try.func6, Try.ntmps6
    go_wp2_with fail
    refine (HT.out _ _ (by simp [go_sem]) (by simp [go_sem]) (by simp [go_sem]) (by simp [go_sem])).mono ?_
    rintro e w1 ⟨rfl, hb1⟩
    (have ha1 : Below w.heap.size w w1 := by (repeat (first | with_reducible exact Below.refl _ _ | with_reducible assumption | with_reducible refine balloc ?_ _ | with_reducible refine bdrew ?_ | with_reducible refine below_drewN ?_ _ | with_reducible refine bset ?_ ?_ _ | with_reducible exact Nat.le_refl _ | with_reducible refine bsize ?_ | (dsimp only; refine Nat.le_trans ?_ (Nat.le_add_right _ _)) | with_reducible refine Nat.le_trans ?_ (Nat.le_add_right _ _) | (with_reducible refine bstep ?_ (by assumption)))))
    obtain ⟨kc1, kf1, kz1, ky1, kx1, kv1, ku1⟩ := bcell hb1
    have r1 : w1.cell? ⟨w.heap.size, 0, none⟩ = some (.int .i64 0) := (by rw [kc1 (w.heap.size) _ (by first | (simp; done) | (simp; omega))]; first | (simp; done) | (simp [go_sem]; done)); have r2 : w1.cell? ⟨w.heap.size, 1, none⟩ = some (.int .i64 0) := (by rw [kc1 (w.heap.size) _ (by first | (simp; done) | (simp; omega))]; first | (simp; done) | (simp [go_sem]; done)); have r3 : w1.frozen? ⟨w.heap.size, 0, none⟩ = false := (by rw [kf1 (w.heap.size) _ (by first | (simp; done) | (simp; omega))]; first | (simp; done) | (simp [go_sem]; done)); have r4 : w1.frozen? ⟨w.heap.size, 1, none⟩ = false := (by rw [kf1 (w.heap.size) _ (by first | (simp; done) | (simp; omega))]; first | (simp; done) | (simp [go_sem]; done)); have rz : w.heap.size < w1.heap.size := kz1 (w.heap.size) (by first | (simp; done) | (simp; omega))
    clear kc1 kf1 kz1 ky1 kx1 kv1 ku1 hb1
    go_wp2
    refine bodyPost_ret (v := .tuple #[.agg #[.int .i64 0, .int .i64 0], .bool false]) (by simp only [results, Try.results6]; go_simp) rfl ⟨rfl, ?_⟩
    (repeat (first | with_reducible exact Below.refl _ _ | with_reducible assumption | with_reducible refine balloc ?_ _ | with_reducible refine bdrew ?_ | with_reducible refine below_drewN ?_ _ | with_reducible refine bset ?_ ?_ _ | with_reducible exact Nat.le_refl _ | with_reducible refine bsize ?_ | (dsimp only; refine Nat.le_trans ?_ (Nat.le_add_right _ _)) | with_reducible refine Nat.le_trans ?_ (Nat.le_add_right _ _) | (with_reducible refine bstep ?_ (by assumption))))
  · rw [hk] at HT
    by_cases hf : a < F ∧ b < F
    · cases hn : inB n 1 5
      · have hz : ftOk l a b F n = false := by simp only [ftOk, ftK, hn, Bool.and_false, Bool.false_and]
        obtain ⟨e1, e2⟩ := ft_no hz
        rw [e1, e2, hz]; clear e1 e2 hz
        go_enter Try.func6, Try.ntmps6
        go_upto_region 1 with fail
        go_cut [33] (fun s33 wx => s33 = .bool true ∧ Below w.heap.size w wx ∧ wx.cell? ⟨w.heap.size, 0, none⟩ = some (.int .i64 0) ∧ wx.cell? ⟨w.heap.size, 1, none⟩ = some (.int .i64 0) ∧ wx.frozen? ⟨w.heap.size, 0, none⟩ = false ∧ wx.frozen? ⟨w.heap.size, 1, none⟩ = false ∧ w.heap.size < wx.heap.size)
        case first =>
          go_wp2_with fail
          refine (HT.out _ _ (by simp [go_sem]) (by simp [go_sem]) (by simp [go_sem]) (by simp [go_sem])).mono ?_
          rintro e w1 ⟨rfl, hb1⟩
          (have ha1 : Below w.heap.size w w1 := by (repeat (first | with_reducible exact Below.refl _ _ | with_reducible assumption | with_reducible refine balloc ?_ _ | with_reducible refine bdrew ?_ | with_reducible refine below_drewN ?_ _ | with_reducible refine bset ?_ ?_ _ | with_reducible exact Nat.le_refl _ | with_reducible refine bsize ?_ | (dsimp only; refine Nat.le_trans ?_ (Nat.le_add_right _ _)) | with_reducible refine Nat.le_trans ?_ (Nat.le_add_right _ _) | (with_reducible refine bstep ?_ (by assumption)))))
          obtain ⟨kc1, kf1, kz1, ky1, kx1, kv1, ku1⟩ := bcell hb1
          have r1 : w1.cell? ⟨w.heap.size, 0, none⟩ = some (.int .i64 0) := (by rw [kc1 (w.heap.size) _ (by first | (simp; done) | (simp; omega))]; first | (simp; done) | (simp [go_sem]; done)); have r2 : w1.cell? ⟨w.heap.size, 1, none⟩ = some (.int .i64 0) := (by rw [kc1 (w.heap.size) _ (by first | (simp; done) | (simp; omega))]; first | (simp; done) | (simp [go_sem]; done)); have r3 : w1.frozen? ⟨w.heap.size, 0, none⟩ = false := (by rw [kf1 (w.heap.size) _ (by first | (simp; done) | (simp; omega))]; first | (simp; done) | (simp [go_sem]; done)); have r4 : w1.frozen? ⟨w.heap.size, 1, none⟩ = false := (by rw [kf1 (w.heap.size) _ (by first | (simp; done) | (simp; omega))]; first | (simp; done) | (simp [go_sem]; done)); have rz : w.heap.size < w1.heap.size := kz1 (w.heap.size) (by first | (simp; done) | (simp; omega))
          clear kc1 kf1 kz1 ky1 kx1 kv1 ku1 hb1
          rcases Int.lt_trichotomy a b with hx | hx | hx
          · go_wp2_with (go_at_call 18; refine (in_impl _ _ _ _).mono ?_; rintro e w2 ⟨rfl, rfl⟩; rw [hn])
            go_meet
            exact ⟨by first | (simp; done) | (simp; omega), ha1, r1, r2, r3, r4, rz⟩
          · subst hx
            go_wp2_with (go_at_call 18; refine (in_impl _ _ _ _).mono ?_; rintro e w2 ⟨rfl, rfl⟩; rw [hn])
            go_meet
            exact ⟨by first | (simp; done) | (simp; omega), ha1, r1, r2, r3, r4, rz⟩
          · go_wp2_with (go_at_call 18; refine (in_impl _ _ _ _).mono ?_; rintro e w2 ⟨rfl, rfl⟩; rw [hn])
            go_meet
            exact ⟨by first | (simp; done) | (simp; omega), ha1, r1, r2, r3, r4, rz⟩
        case rest =>
          obtain ⟨rfl, hbc, r1, r2, r3, r4, rz⟩ := hcut
          go_wp2
          refine bodyPost_ret (v := .tuple #[.agg #[.int .i64 0, .int .i64 0], .bool false]) (by simp only [results, Try.results6]; go_simp) rfl ⟨rfl, ?_⟩
          (repeat (first | with_reducible exact Below.refl _ _ | with_reducible assumption | with_reducible refine balloc ?_ _ | with_reducible refine bdrew ?_ | with_reducible refine below_drewN ?_ _ | with_reducible refine bset ?_ ?_ _ | with_reducible exact Nat.le_refl _ | with_reducible refine bsize ?_ | (dsimp only; refine Nat.le_trans ?_ (Nat.le_add_right _ _)) | with_reducible refine Nat.le_trans ?_ (Nat.le_add_right _ _) | (with_reducible refine bstep ?_ (by assumption))))
      · have hK : ftK l a b F n = true := by simp only [ftK, hk, hn, Bool.true_and, Bool.and_true, decide_eq_true hf]
        obtain ⟨l0, a0, c0, f0, n0⟩ := ftK_yes hK
        have hyes := Lib.hid (fun (k : Nat) (hkn : (k : Int) = n) (ho : (ftAt l a b F k).ok = true) => (by
          have e : n.toNat = k := by omega
          have h := @ft_yes l a b F n (by simp [ftOk, hK, e, ho])
          rw [e] at h
          exact ⟨by simp [ftOk, hK, e, ho], h.1, h.2⟩ : ftOk l a b F n = true ∧ ftX l a b F n = (ftAt l a b F k).x ∧ ftY l a b F n = (ftAt l a b F k).y))
        have hno := Lib.hid (fun (k : Nat) (hkn : (k : Int) ≤ n) (ho : (ftAt l a b F k).ok = false) => (by
          have hz : ftOk l a b F n = false := by
            cases h : ftOk l a b F n
            · rfl
            · have h2 : (ftAt l a b F n.toNat).ok = true := by rw [ftOk, Bool.and_eq_true] at h; exact h.2
              have h3 := ft_mono (k := k) (by omega) h2
              rw [ho] at h3; cases h3
          exact ⟨hz, (ft_no hz).1, (ft_no hz).2⟩ : ftOk l a b F n = false ∧ ftX l a b F n = 0 ∧ ftY l a b F n = 0))
        have ham := Lib.hid (@ft_am l a b F l0)
        have hfr := Lib.hid (ft_fr a b F a0 c0)
        generalize ftOk l a b F n = AB at *
        generalize ftX l a b F n = AX at *
        generalize ftY l a b F n = AY at *
        have hW := Lib.hid (fun k W => whole9 k W)
        have HTn := Lib.hid (fun x y g h fr nx h1 h2 h3 h4 W => turn_impl x y g h fr nx F h1 h2 h3 h4 f0 W)
        clear hK hk
        go_enter Try.func6, Try.ntmps6
        go_upto_region 1 with fail
        go_cut [33] (fun s33 wx => s33 = .bool false ∧ Below w.heap.size w wx ∧ wx.cell? ⟨w.heap.size, 0, none⟩ = some (.int .i64 0) ∧ wx.cell? ⟨w.heap.size, 1, none⟩ = some (.int .i64 0) ∧ wx.frozen? ⟨w.heap.size, 0, none⟩ = false ∧ wx.frozen? ⟨w.heap.size, 1, none⟩ = false ∧ w.heap.size < wx.heap.size)
        case first =>
          go_wp2_with fail
          refine (HT.out _ _ (by simp [go_sem]) (by simp [go_sem]) (by simp [go_sem]) (by simp [go_sem])).mono ?_
          rintro e w1 ⟨rfl, hb1⟩
          (have ha1 : Below w.heap.size w w1 := by (repeat (first | with_reducible exact Below.refl _ _ | with_reducible assumption | with_reducible refine balloc ?_ _ | with_reducible refine bdrew ?_ | with_reducible refine below_drewN ?_ _ | with_reducible refine bset ?_ ?_ _ | with_reducible exact Nat.le_refl _ | with_reducible refine bsize ?_ | (dsimp only; refine Nat.le_trans ?_ (Nat.le_add_right _ _)) | with_reducible refine Nat.le_trans ?_ (Nat.le_add_right _ _) | (with_reducible refine bstep ?_ (by assumption)))))
          obtain ⟨kc1, kf1, kz1, ky1, kx1, kv1, ku1⟩ := bcell hb1
          have r1 : w1.cell? ⟨w.heap.size, 0, none⟩ = some (.int .i64 0) := (by rw [kc1 (w.heap.size) _ (by first | (simp; done) | (simp; omega))]; first | (simp; done) | (simp [go_sem]; done)); have r2 : w1.cell? ⟨w.heap.size, 1, none⟩ = some (.int .i64 0) := (by rw [kc1 (w.heap.size) _ (by first | (simp; done) | (simp; omega))]; first | (simp; done) | (simp [go_sem]; done)); have r3 : w1.frozen? ⟨w.heap.size, 0, none⟩ = false := (by rw [kf1 (w.heap.size) _ (by first | (simp; done) | (simp; omega))]; first | (simp; done) | (simp [go_sem]; done)); have r4 : w1.frozen? ⟨w.heap.size, 1, none⟩ = false := (by rw [kf1 (w.heap.size) _ (by first | (simp; done) | (simp; omega))]; first | (simp; done) | (simp [go_sem]; done)); have rz : w.heap.size < w1.heap.size := kz1 (w.heap.size) (by first | (simp; done) | (simp; omega))
          clear kc1 kf1 kz1 ky1 kx1 kv1 ku1 hb1
          rcases Int.lt_trichotomy a b with hx | hx | hx
          · go_wp2_with (go_at_call 18; refine (in_impl _ _ _ _).mono ?_; rintro e w2 ⟨rfl, rfl⟩; rw [hn])
            go_meet
            exact ⟨by first | (simp; done) | (simp; omega), ha1, r1, r2, r3, r4, rz⟩
          · subst hx
            go_wp2_with (go_at_call 18; refine (in_impl _ _ _ _).mono ?_; rintro e w2 ⟨rfl, rfl⟩; rw [hn])
            go_meet
            exact ⟨by first | (simp; done) | (simp; omega), ha1, r1, r2, r3, r4, rz⟩
          · go_wp2_with (go_at_call 18; refine (in_impl _ _ _ _).mono ?_; rintro e w2 ⟨rfl, rfl⟩; rw [hn])
            go_meet
            exact ⟨by first | (simp; done) | (simp; omega), ha1, r1, r2, r3, r4, rz⟩
        case rest =>
          obtain ⟨rfl, hbc, r1, r2, r3, r4, rz⟩ := hcut
          have hR : Res8 w.heap.size wc := ⟨_, _, r1, r2, r3, r4, rz⟩
          clear r1 r2 r3 r4
          go_wp2_with fail
          refine (hW.out 0 _).mono ?_
          rintro e w1 ⟨rfl, hb1⟩
          replace hR := hR.later (bstep (by (repeat (first | with_reducible exact Below.refl _ _ | with_reducible assumption | with_reducible refine balloc ?_ _ | with_reducible refine bdrew ?_ | with_reducible refine below_drewN ?_ _ | with_reducible refine bset ?_ ?_ _ | with_reducible exact Nat.le_refl _ | with_reducible refine bsize ?_ | (dsimp only; refine Nat.le_trans ?_ (Nat.le_add_right _ _)) | with_reducible refine Nat.le_trans ?_ (Nat.le_add_right _ _) | (with_reducible refine bstep ?_ (by assumption))))) hb1)
          replace hbc : Below w.heap.size w w1 := bstep hbc hb1
          clear hb1
          go_wp2_with fail
          refine (hW.out l _).mono ?_
          rintro e w2 ⟨rfl, hb2⟩
          replace hR := hR.later (bstep (by (repeat (first | with_reducible exact Below.refl _ _ | with_reducible assumption | with_reducible refine balloc ?_ _ | with_reducible refine bdrew ?_ | with_reducible refine below_drewN ?_ _ | with_reducible refine bset ?_ ?_ _ | with_reducible exact Nat.le_refl _ | with_reducible refine bsize ?_ | (dsimp only; refine Nat.le_trans ?_ (Nat.le_add_right _ _)) | with_reducible refine Nat.le_trans ?_ (Nat.le_add_right _ _) | (with_reducible refine bstep ?_ (by assumption))))) hb2)
          replace hbc : Below w.heap.size w w2 := bstep hbc hb2
          clear hb2
          have hGw : w.heap.size ≤ w2.heap.size := hbc.size
          have hGn : ¬ (w.heap.size = w2.heap.size) := by have := hR; obtain ⟨_, _, _, _, _, _, q⟩ := this; omega
          have hGn2 : ¬ (w2.heap.size = w.heap.size) := fun e => hGn e.symm
          go_wp2
          go_loopw [42] (fun i wr => ∃ k : Nat, (k : Int) ≤ n ∧ i = .int .i64 k ∧ Hid ((ftAt l a b F k).ok = true) ∧ wr.cell? ⟨w2.heap.size, 0, none⟩ = some (.int .i64 (ftAt l a b F k).x) ∧ wr.cell? ⟨w2.heap.size, 1, none⟩ = some (.int .i64 (ftAt l a b F k).y) ∧ wr.cell? ⟨w2.heap.size, 2, none⟩ = some (.int .i64 (ftAt l a b F k).g) ∧ wr.cell? ⟨w2.heap.size, 3, none⟩ = some (.int .i64 (ftAt l a b F k).h) ∧ wr.cell? ⟨w2.heap.size, 4, none⟩ = some (.int .i64 (ftFr a b k)) ∧ wr.cell? ⟨w2.heap.size, 5, none⟩ = some (.int .i64 (ftTo a b k)) ∧ Res6 w2.heap.size wr ∧ Res8 w.heap.size wr ∧ Below w.heap.size w wr) (fun i _ => n.toNat - (intOf i).toNat)
          case atStart =>
            refine ⟨0, by omega, rfl, Lib.hid rfl, ?_, ?_, ?_, ?_, ?_, ?_, ⟨fun o ho => ?_, ?_⟩, hR.alloc _, ?_⟩
            all_goals first | (simp [go_sem, ftAt, ftFr, ftTo]; done) | ((repeat (first | with_reducible exact Below.refl _ _ | with_reducible assumption | with_reducible refine balloc ?_ _ | with_reducible refine bdrew ?_ | with_reducible refine below_drewN ?_ _ | with_reducible refine bset ?_ ?_ _ | with_reducible exact Nat.le_refl _ | with_reducible refine bsize ?_ | (dsimp only; refine Nat.le_trans ?_ (Nat.le_add_right _ _)) | with_reducible refine Nat.le_trans ?_ (Nat.le_add_right _ _) | (with_reducible refine bstep ?_ (by assumption)))); done) | skip
            · have : o = 0 ∨ o = 1 ∨ o = 2 ∨ o = 3 ∨ o = 4 ∨ o = 5 := by omega
              rcases this with rfl | rfl | rfl | rfl | rfl | rfl
              all_goals exact ⟨_, by simp [go_sem]; rfl, by simp [go_sem]⟩
          case round =>
            obtain ⟨k, hkn, rfl, hok, g0, g1, g2, g3, g4, g5, hR6, hR2, hbr⟩ := hrel
            have hGz := hR6.2
            by_cases hlt : (k : Int) < n
            · have hm := ham.out k hok.out
              have hfk := hfr.out k
              have hTk := Lib.hid (fun W => HTn.out _ _ _ _ _ _ hm.1 hm.2 hfk.1 hfk.2 W)
              have hstep : (ftAt l a b F (k + 1)).ok = ((ftAt l a b F k).ok && tnOk (ftAt l a b F k).x (ftAt l a b F k).y (ftAt l a b F k).g (ftAt l a b F k).h (ftFr a b k) (ftTo a b k) F) := rfl
              rw [hok.out, Bool.true_and] at hstep
              have hval : ∀ x' y' g' h' : Int, (x' = lowN ((ftAt l a b F k).x * ftQ F (ftTo a b k) (ftAt l a b F k).g (ftAt l a b F k).h + ftP F (ftTo a b k) (ftAt l a b F k).g (ftAt l a b F k).h * (ftAt l a b F k).y) ((ftAt l a b F k).y * ftQ F (ftTo a b k) (ftAt l a b F k).g (ftAt l a b F k).h) ∧ y' = lowD ((ftAt l a b F k).x * ftQ F (ftTo a b k) (ftAt l a b F k).g (ftAt l a b F k).h + ftP F (ftTo a b k) (ftAt l a b F k).g (ftAt l a b F k).h * (ftAt l a b F k).y) ((ftAt l a b F k).y * ftQ F (ftTo a b k) (ftAt l a b F k).g (ftAt l a b F k).h) ∧ g' = lowN ((ftAt l a b F k).g * (F - ftFr a b k)) ((ftAt l a b F k).h * (F + ftTo a b k)) ∧ h' = lowD ((ftAt l a b F k).g * (F - ftFr a b k)) ((ftAt l a b F k).h * (F + ftTo a b k))) →
                  x' = (ftAt l a b F (k + 1)).x ∧ y' = (ftAt l a b F (k + 1)).y ∧ g' = (ftAt l a b F (k + 1)).g ∧ h' = (ftAt l a b F (k + 1)).h := fun _ _ _ _ h => h
              have hsw := ft_swap a b k
              clear hm hfk
              have hval2 : Hid (∀ x' y' g' h' : Int, _ → _) := Lib.hid hval
              clear hval
              have hno1 := Lib.hid (hno.out (k + 1) (by omega))
              rw [hstep] at hno1
              cases htn : tnOk (ftAt l a b F k).x (ftAt l a b F k).y (ftAt l a b F k).g (ftAt l a b F k).h (ftFr a b k) (ftTo a b k) F
              · rw [htn] at hTk hno1
                have ee := Lib.hid (hno1.out rfl)
                clear hno1 htn hstep hval2 hsw
                generalize (ftAt l a b F k).x = x at *
                generalize (ftAt l a b F k).y = y at *
                generalize (ftAt l a b F k).g = g at *
                generalize (ftAt l a b F k).h = h at *
                generalize ftFr a b k = fr at *
                generalize ftTo a b k = nx at *
                go_wp2_with fail
                refine (hTk.out _).mono ?_
                rintro e w4 ⟨⟨x', y', g', h', rfl, _⟩, hb4⟩
                replace hR2 := hR2.later (bstep (by (repeat (first | with_reducible exact Below.refl _ _ | with_reducible assumption | with_reducible refine balloc ?_ _ | with_reducible refine bdrew ?_ | with_reducible refine below_drewN ?_ _ | with_reducible refine bset ?_ ?_ _ | with_reducible exact Nat.le_refl _ | with_reducible refine bsize ?_ | (dsimp only; refine Nat.le_trans ?_ (Nat.le_add_right _ _)) | with_reducible refine Nat.le_trans ?_ (Nat.le_add_right _ _) | (with_reducible refine bstep ?_ (by assumption))))) hb4)
                obtain ⟨rx, ry, r1, r2, r3, r4, rz⟩ := hR2
                go_wp2
                refine bodyPost_ret (v := .tuple #[.agg #[.int .i64 0, .int .i64 0], .bool false]) (by simp only [results, Try.results6]; go_simp) rfl ?_
                refine ⟨by rw [ee.out.1, ee.out.2.1, ee.out.2.2], ?_⟩
                (repeat (first | with_reducible exact Below.refl _ _ | with_reducible assumption | with_reducible refine balloc ?_ _ | with_reducible refine bdrew ?_ | with_reducible refine below_drewN ?_ _ | with_reducible refine bset ?_ ?_ _ | with_reducible exact Nat.le_refl _ | with_reducible refine bsize ?_ | (dsimp only; refine Nat.le_trans ?_ (Nat.le_add_right _ _)) | with_reducible refine Nat.le_trans ?_ (Nat.le_add_right _ _) | (with_reducible refine bstep ?_ (by assumption))))
              · rw [htn] at hTk hstep
                clear hno1
                have hnx := Lib.hid hstep
                clear hstep htn
                obtain ⟨x1, hx1⟩ : ∃ z, z = (ftAt l a b F (k + 1)).x := ⟨_, rfl⟩
                obtain ⟨y1, hy1⟩ : ∃ z, z = (ftAt l a b F (k + 1)).y := ⟨_, rfl⟩
                obtain ⟨z1, hz1⟩ : ∃ z, z = (ftAt l a b F (k + 1)).g := ⟨_, rfl⟩
                obtain ⟨h1, hh1⟩ : ∃ z, z = (ftAt l a b F (k + 1)).h := ⟨_, rfl⟩
                rw [← hx1, ← hy1, ← hz1, ← hh1] at hval2
                have hxs := Lib.hid (And.intro hx1 (And.intro hy1 (And.intro hz1 (And.intro hh1 hsw))))
                clear hx1 hy1 hz1 hh1 hsw
                generalize hk0 : (ftAt l a b F k).x = x at *
                generalize (ftAt l a b F k).y = y at *
                generalize (ftAt l a b F k).g = g at *
                generalize (ftAt l a b F k).h = h at *
                clear hk0
                obtain ⟨fr, hfr0⟩ : ∃ z, z = ftFr a b k := ⟨_, rfl⟩
                obtain ⟨nx, hto0⟩ : ∃ z, z = ftTo a b k := ⟨_, rfl⟩
                rw [← hfr0] at g4 hTk hval2
                rw [← hto0] at g5 hTk hval2
                have hft := Lib.hid (And.intro hfr0 hto0)
                clear hfr0 hto0
                go_wp2_with fail
                refine (hTk.out _).mono ?_
                rintro e w4 ⟨⟨x', y', g', h', rfl, hvv⟩, hb4⟩
                obtain ⟨rfl, rfl, rfl, rfl⟩ := hval2.out _ _ _ _ (hvv (by first | trivial | rfl | simp))
                clear hvv hval2
                have rb : Below wr.heap.size wr w4 := bstep (by (repeat (first | with_reducible exact Below.refl _ _ | with_reducible assumption | with_reducible refine balloc ?_ _ | with_reducible refine bdrew ?_ | with_reducible refine below_drewN ?_ _ | with_reducible refine bset ?_ ?_ _ | with_reducible exact Nat.le_refl _ | with_reducible refine bsize ?_ | (dsimp only; refine Nat.le_trans ?_ (Nat.le_add_right _ _)) | with_reducible refine Nat.le_trans ?_ (Nat.le_add_right _ _) | (with_reducible refine bstep ?_ (by assumption))))) hb4
                replace hR2 := hR2.later rb
                replace hR6 := hR6.later rb
                replace hbr : Below w.heap.size w w4 := bstep hbr rb
                replace hGz := Nat.lt_of_lt_of_le hGz rb.size
                clear g0 g1 g2 g3 g4 g5 rb hb4
                have hGm : ¬ (w2.heap.size = w4.heap.size) := by omega
                have hGm2 : ¬ (w4.heap.size = w2.heap.size) := by omega
                obtain ⟨u0, t0, v0⟩ := hR6.1 0 (by omega)
                obtain ⟨u1, t1, v1⟩ := hR6.1 1 (by omega)
                obtain ⟨u2, t2, v2⟩ := hR6.1 2 (by omega)
                obtain ⟨u3, t3, v3⟩ := hR6.1 3 (by omega)
                obtain ⟨u4, t4, v4⟩ := hR6.1 4 (by omega)
                obtain ⟨u5, t5, v5⟩ := hR6.1 5 (by omega)
                go_wp2
                go_roundw
                case rel =>
                  have hx := hxs.out
                  have hf2 := hft.out
                  refine ⟨k + 1, by omega, by go_num, hnx, ?_, ?_, ?_, ?_, ?_, ?_, ⟨fun o ho => ?_, ?_⟩, ?_, ?_⟩
                  · rw [← hx.1]; simp [go_sem, *]
                  · rw [← hx.2.1]; simp [go_sem, *]
                  · rw [← hx.2.2.1]; simp [go_sem, *]
                  · rw [← hx.2.2.2.1]; simp [go_sem, *]
                  · rw [hx.2.2.2.2.1, ← hf2.2]; clear hx hf2; simp [go_sem, *]
                  · rw [hx.2.2.2.2.2, ← hf2.1]; clear hx hf2; simp [go_sem, *]
                  · clear hx hf2
                    have : o = 0 ∨ o = 1 ∨ o = 2 ∨ o = 3 ∨ o = 4 ∨ o = 5 := by omega
                    rcases this with rfl | rfl | rfl | rfl | rfl | rfl
                    all_goals exact ⟨_, by simp [go_sem, *]; rfl, by simp [go_sem, *]⟩
                  · simp; omega
                  · obtain ⟨rx, ry, r1, r2, r3, r4, rz⟩ := hR2
                    clear hx hf2
                    exact ⟨_, _, by simp [go_sem, *]; rfl, by simp [go_sem, *]; rfl, by simp [go_sem, *], by simp [go_sem, *], by simp; omega⟩
                  · (repeat (first | with_reducible exact Below.refl _ _ | with_reducible assumption | with_reducible refine balloc ?_ _ | with_reducible refine bdrew ?_ | with_reducible refine below_drewN ?_ _ | with_reducible refine bset ?_ ?_ _ | with_reducible exact Nat.le_refl _ | with_reducible refine bsize ?_ | (dsimp only; refine Nat.le_trans ?_ (Nat.le_add_right _ _)) | with_reducible refine Nat.le_trans ?_ (Nat.le_add_right _ _) | (with_reducible refine bstep ?_ (by assumption))))
                case measure => simp [intOf]; omega
            · have hkk : (k : Int) = n := by omega
              have ee := Lib.hid (hyes.out k hkk hok.out)
              clear hkk
              generalize (ftAt l a b F k).x = x at *
              generalize (ftAt l a b F k).y = y at *
              obtain ⟨rx, ry, r1, r2, r3, r4, rz⟩ := hR2
              go_wp2
              refine bodyPost_ret (v := .tuple #[.agg #[.int .i64 x, .int .i64 y], .bool true]) (by simp only [results, Try.results6]; go_simp) rfl ?_
              refine ⟨by rw [ee.out.1, ee.out.2.1, ee.out.2.2], ?_⟩
              (repeat (first | with_reducible exact Below.refl _ _ | with_reducible assumption | with_reducible refine balloc ?_ _ | with_reducible refine bdrew ?_ | with_reducible refine below_drewN ?_ _ | with_reducible refine bset ?_ ?_ _ | with_reducible exact Nat.le_refl _ | with_reducible refine bsize ?_ | (dsimp only; refine Nat.le_trans ?_ (Nat.le_add_right _ _)) | with_reducible refine Nat.le_trans ?_ (Nat.le_add_right _ _) | (with_reducible refine bstep ?_ (by assumption))))
    · have hz : ftOk l a b F n = false := by simp only [ftOk, ftK, decide_eq_false hf, Bool.and_false, Bool.false_and]
      obtain ⟨e1, e2⟩ := ft_no hz
      rw [e1, e2, hz]; clear e1 e2 hz
      go_enter Try.func6, Try.ntmps6
      go_upto_region 1 with fail
      go_cut [33] (fun s33 wx => s33 = .bool true ∧ Below w.heap.size w wx ∧ wx.cell? ⟨w.heap.size, 0, none⟩ = some (.int .i64 0) ∧ wx.cell? ⟨w.heap.size, 1, none⟩ = some (.int .i64 0) ∧ wx.frozen? ⟨w.heap.size, 0, none⟩ = false ∧ wx.frozen? ⟨w.heap.size, 1, none⟩ = false ∧ w.heap.size < wx.heap.size)
      case first =>
        go_wp2_with fail
        refine (HT.out _ _ (by simp [go_sem]) (by simp [go_sem]) (by simp [go_sem]) (by simp [go_sem])).mono ?_
        rintro e w1 ⟨rfl, hb1⟩
        (have ha1 : Below w.heap.size w w1 := by (repeat (first | with_reducible exact Below.refl _ _ | with_reducible assumption | with_reducible refine balloc ?_ _ | with_reducible refine bdrew ?_ | with_reducible refine below_drewN ?_ _ | with_reducible refine bset ?_ ?_ _ | with_reducible exact Nat.le_refl _ | with_reducible refine bsize ?_ | (dsimp only; refine Nat.le_trans ?_ (Nat.le_add_right _ _)) | with_reducible refine Nat.le_trans ?_ (Nat.le_add_right _ _) | (with_reducible refine bstep ?_ (by assumption)))))
        obtain ⟨kc1, kf1, kz1, ky1, kx1, kv1, ku1⟩ := bcell hb1
        have r1 : w1.cell? ⟨w.heap.size, 0, none⟩ = some (.int .i64 0) := (by rw [kc1 (w.heap.size) _ (by first | (simp; done) | (simp; omega))]; first | (simp; done) | (simp [go_sem]; done)); have r2 : w1.cell? ⟨w.heap.size, 1, none⟩ = some (.int .i64 0) := (by rw [kc1 (w.heap.size) _ (by first | (simp; done) | (simp; omega))]; first | (simp; done) | (simp [go_sem]; done)); have r3 : w1.frozen? ⟨w.heap.size, 0, none⟩ = false := (by rw [kf1 (w.heap.size) _ (by first | (simp; done) | (simp; omega))]; first | (simp; done) | (simp [go_sem]; done)); have r4 : w1.frozen? ⟨w.heap.size, 1, none⟩ = false := (by rw [kf1 (w.heap.size) _ (by first | (simp; done) | (simp; omega))]; first | (simp; done) | (simp [go_sem]; done)); have rz : w.heap.size < w1.heap.size := kz1 (w.heap.size) (by first | (simp; done) | (simp; omega))
        clear kc1 kf1 kz1 ky1 kx1 kv1 ku1 hb1
        rcases Int.lt_trichotomy a b with hx | hx | hx
        · go_wp2_with fail
          go_meet
          exact ⟨by first | (simp; done) | (simp; omega), ha1, r1, r2, r3, r4, rz⟩
        · subst hx
          go_wp2_with fail
          go_meet
          exact ⟨by first | (simp; done) | (simp; omega), ha1, r1, r2, r3, r4, rz⟩
        · go_wp2_with fail
          go_meet
          exact ⟨by first | (simp; done) | (simp; omega), ha1, r1, r2, r3, r4, rz⟩
      case rest =>
        obtain ⟨rfl, hbc, r1, r2, r3, r4, rz⟩ := hcut
        go_wp2
        refine bodyPost_ret (v := .tuple #[.agg #[.int .i64 0, .int .i64 0], .bool false]) (by simp only [results, Try.results6]; go_simp) rfl ⟨rfl, ?_⟩
        (repeat (first | with_reducible exact Below.refl _ _ | with_reducible assumption | with_reducible refine balloc ?_ _ | with_reducible refine bdrew ?_ | with_reducible refine below_drewN ?_ _ | with_reducible refine bset ?_ ?_ _ | with_reducible exact Nat.le_refl _ | with_reducible refine bsize ?_ | (dsimp only; refine Nat.le_trans ?_ (Nat.le_add_right _ _)) | with_reducible refine Nat.le_trans ?_ (Nat.le_add_right _ _) | (with_reducible refine bstep ?_ (by assumption))))
end Go.Proofs.Ytbaaaaceejgofaa
