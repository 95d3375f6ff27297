/- The falcon's turns: FalconTurn of the model. -/
import Derived.Test.YtbaaaaceejgofaaCavQ
namespace Go.Proofs.Ytbaaaaceejgofaa
open Go.ChangeShapes Go.WideShapes Go.ChangeAt Go.RowKit Go.Joins
set_option maxRecDepth 100000
set_option linter.unusedVariables false
set_option linter.unusedSimpArgs false

theorem whole9s (k : Int) (w : World) :
    Calls Try.prog 14 #[.int .i64 k] w fun e w' => e = .returned (.agg #[.int .i64 k, .int .i64 1]) ∧ Below w.heap.size w w' := by
  go_enter Try.func14, Try.ntmps14
  go_wp2
  exact bodyPost_ret (v := .agg #[.int .i64 k, .int .i64 1]) (by simp [results, Try.results14, go_sem]) rfl ⟨rfl, by (repeat (first | with_reducible exact Below.refl _ _ | with_reducible assumption | with_reducible refine balloc ?_ _ | with_reducible refine bdrew ?_ | with_reducible refine below_drewN ?_ _ | with_reducible refine bset ?_ ?_ _ | with_reducible exact Nat.le_refl _ | with_reducible refine bsize ?_ | (dsimp only; refine Nat.le_trans ?_ (Nat.le_add_right _ _)) | with_reducible refine Nat.le_trans ?_ (Nat.le_add_right _ _) | (with_reducible refine bstep ?_ (by assumption))))⟩
set_option maxHeartbeats 25600000 in
theorem fturn_spec (l a b F n : Int) (w : World) :
    Calls Try.prog 5 #[.int .i64 l, .int .i64 a, .int .i64 b, .int .i64 F, .int .i64 n] w fun e w' => e = .returned (.tuple #[.agg #[.int .i64 (ftX l a b F n), .int .i64 (ftY l a b F n)], .bool (ftOk l a b F n)]) ∧ Below w.heap.size w w' := by
  cases h1 : trP l
  · have hz : ftOk l a b F n = false := by simp [ftOk, ftK, h1]
    obtain ⟨e1, e2⟩ := ft_no hz
    rw [e1, e2, hz]; clear e1 e2 hz
    go_enter Try.func5, Try.ntmps5
    go_wp2_with (go_at_call 12; refine (one_spec _ _).mono ?_; rintro e w2 ⟨rfl, rfl⟩; first | rw [h1])
    refine bodyPost_ret (v := .tuple #[.agg #[.int .i64 0, .int .i64 0], .bool false]) (by simp only [results, Try.results5]; go_simp) rfl ⟨rfl, ?_⟩
    (repeat (first | with_reducible exact Below.refl _ _ | with_reducible assumption | with_reducible refine balloc ?_ _ | with_reducible refine bdrew ?_ | with_reducible refine below_drewN ?_ _ | with_reducible refine bset ?_ ?_ _ | with_reducible exact Nat.le_refl _ | with_reducible refine bsize ?_ | (dsimp only; refine Nat.le_trans ?_ (Nat.le_add_right _ _)) | with_reducible refine Nat.le_trans ?_ (Nat.le_add_right _ _) | (with_reducible refine bstep ?_ (by assumption))))
  · skip
    cases h2 : trP a
    · have hz : ftOk l a b F n = false := by simp [ftOk, ftK, h2]
      obtain ⟨e1, e2⟩ := ft_no hz
      rw [e1, e2, hz]; clear e1 e2 hz
      go_enter Try.func5, Try.ntmps5
      go_wp2_with (go_at_call 12; refine (one_spec _ _).mono ?_; rintro e w2 ⟨rfl, rfl⟩; first | rw [h1] | rw [h2])
      refine bodyPost_ret (v := .tuple #[.agg #[.int .i64 0, .int .i64 0], .bool false]) (by simp only [results, Try.results5]; go_simp) rfl ⟨rfl, ?_⟩
      (repeat (first | with_reducible exact Below.refl _ _ | with_reducible assumption | with_reducible refine balloc ?_ _ | with_reducible refine bdrew ?_ | with_reducible refine below_drewN ?_ _ | with_reducible refine bset ?_ ?_ _ | with_reducible exact Nat.le_refl _ | with_reducible refine bsize ?_ | (dsimp only; refine Nat.le_trans ?_ (Nat.le_add_right _ _)) | with_reducible refine Nat.le_trans ?_ (Nat.le_add_right _ _) | (with_reducible refine bstep ?_ (by assumption))))
    · skip
      cases h3 : trP b
      · have hz : ftOk l a b F n = false := by simp [ftOk, ftK, h3]
        obtain ⟨e1, e2⟩ := ft_no hz
        rw [e1, e2, hz]; clear e1 e2 hz
        go_enter Try.func5, Try.ntmps5
        go_wp2_with (go_at_call 12; refine (one_spec _ _).mono ?_; rintro e w2 ⟨rfl, rfl⟩; first | rw [h1] | rw [h2] | rw [h3])
        refine bodyPost_ret (v := .tuple #[.agg #[.int .i64 0, .int .i64 0], .bool false]) (by simp only [results, Try.results5]; go_simp) rfl ⟨rfl, ?_⟩
        (repeat (first | with_reducible exact Below.refl _ _ | with_reducible assumption | with_reducible refine balloc ?_ _ | with_reducible refine bdrew ?_ | with_reducible refine below_drewN ?_ _ | with_reducible refine bset ?_ ?_ _ | with_reducible exact Nat.le_refl _ | with_reducible refine bsize ?_ | (dsimp only; refine Nat.le_trans ?_ (Nat.le_add_right _ _)) | with_reducible refine Nat.le_trans ?_ (Nat.le_add_right _ _) | (with_reducible refine bstep ?_ (by assumption))))
      · skip
        cases h4 : trP F
        · have hz : ftOk l a b F n = false := by simp [ftOk, ftK, h4]
          obtain ⟨e1, e2⟩ := ft_no hz
          rw [e1, e2, hz]; clear e1 e2 hz
          go_enter Try.func5, Try.ntmps5
          go_wp2_with (go_at_call 12; refine (one_spec _ _).mono ?_; rintro e w2 ⟨rfl, rfl⟩; first | rw [h1] | rw [h2] | rw [h3] | rw [h4])
          refine bodyPost_ret (v := .tuple #[.agg #[.int .i64 0, .int .i64 0], .bool false]) (by simp only [results, Try.results5]; go_simp) rfl ⟨rfl, ?_⟩
          (repeat (first | with_reducible exact Below.refl _ _ | with_reducible assumption | with_reducible refine balloc ?_ _ | with_reducible refine bdrew ?_ | with_reducible refine below_drewN ?_ _ | with_reducible refine bset ?_ ?_ _ | with_reducible exact Nat.le_refl _ | with_reducible refine bsize ?_ | (dsimp only; refine Nat.le_trans ?_ (Nat.le_add_right _ _)) | with_reducible refine Nat.le_trans ?_ (Nat.le_add_right _ _) | (with_reducible refine bstep ?_ (by assumption))))
        · skip
          by_cases q1 : F ≤ a
          · have hz : ftOk l a b F n = false := by simp [ftOk, ftK]; omega
            obtain ⟨e1, e2⟩ := ft_no hz
            rw [e1, e2, hz]; clear e1 e2 hz
            go_enter Try.func5, Try.ntmps5
            go_wp2_with (go_at_call 12; refine (one_spec _ _).mono ?_; rintro e w2 ⟨rfl, rfl⟩; first | rw [h1] | rw [h2] | rw [h3] | rw [h4])
            refine bodyPost_ret (v := .tuple #[.agg #[.int .i64 0, .int .i64 0], .bool false]) (by simp only [results, Try.results5]; go_simp) rfl ⟨rfl, ?_⟩
            (repeat (first | with_reducible exact Below.refl _ _ | with_reducible assumption | with_reducible refine balloc ?_ _ | with_reducible refine bdrew ?_ | with_reducible refine below_drewN ?_ _ | with_reducible refine bset ?_ ?_ _ | with_reducible exact Nat.le_refl _ | with_reducible refine bsize ?_ | (dsimp only; refine Nat.le_trans ?_ (Nat.le_add_right _ _)) | with_reducible refine Nat.le_trans ?_ (Nat.le_add_right _ _) | (with_reducible refine bstep ?_ (by assumption))))
          · skip
            by_cases q2 : F ≤ b
            · have hz : ftOk l a b F n = false := by simp [ftOk, ftK]; omega
              obtain ⟨e1, e2⟩ := ft_no hz
              rw [e1, e2, hz]; clear e1 e2 hz
              go_enter Try.func5, Try.ntmps5
              go_wp2_with (go_at_call 12; refine (one_spec _ _).mono ?_; rintro e w2 ⟨rfl, rfl⟩; first | rw [h1] | rw [h2] | rw [h3] | rw [h4])
              refine bodyPost_ret (v := .tuple #[.agg #[.int .i64 0, .int .i64 0], .bool false]) (by simp only [results, Try.results5]; go_simp) rfl ⟨rfl, ?_⟩
              (repeat (first | with_reducible exact Below.refl _ _ | with_reducible assumption | with_reducible refine balloc ?_ _ | with_reducible refine bdrew ?_ | with_reducible refine below_drewN ?_ _ | with_reducible refine bset ?_ ?_ _ | with_reducible exact Nat.le_refl _ | with_reducible refine bsize ?_ | (dsimp only; refine Nat.le_trans ?_ (Nat.le_add_right _ _)) | with_reducible refine Nat.le_trans ?_ (Nat.le_add_right _ _) | (with_reducible refine bstep ?_ (by assumption))))
            · skip
              cases hn : inB n 1 5
              · have hz : ftOk l a b F n = false := by simp [ftOk, ftK, hn]
                obtain ⟨e1, e2⟩ := ft_no hz
                rw [e1, e2, hz]; clear e1 e2 hz
                go_enter Try.func5, Try.ntmps5
                go_wp2_with (first | (go_at_call 12; refine (one_spec _ _).mono ?_; rintro e w2 ⟨rfl, rfl⟩; first | rw [h1] | rw [h2] | rw [h3] | rw [h4]) | (go_at_call 13; refine (in_spec _ _ _ _).mono ?_; rintro e w2 ⟨rfl, rfl⟩; rw [hn]))
                refine bodyPost_ret (v := .tuple #[.agg #[.int .i64 0, .int .i64 0], .bool false]) (by simp only [results, Try.results5]; go_simp) rfl ⟨rfl, ?_⟩
                (repeat (first | with_reducible exact Below.refl _ _ | with_reducible assumption | with_reducible refine balloc ?_ _ | with_reducible refine bdrew ?_ | with_reducible refine below_drewN ?_ _ | with_reducible refine bset ?_ ?_ _ | with_reducible exact Nat.le_refl _ | with_reducible refine bsize ?_ | (dsimp only; refine Nat.le_trans ?_ (Nat.le_add_right _ _)) | with_reducible refine Nat.le_trans ?_ (Nat.le_add_right _ _) | (with_reducible refine bstep ?_ (by assumption))))
              · skip
                have hK : ftK l a b F n = true := by simp [ftK, h1, h2, h3, h4, hn]; omega
                obtain ⟨l0, a0, c0, f0, n0⟩ := ftK_yes hK
                have hyes := Lib.hid (fun (k : Nat) (hkn : (k : Int) = n) (ho : (ftAt l a b F k).ok = true) => (by
                  have e : n.toNat = k := by omega
                  have h := @ft_yes l a b F n (by simp [ftOk, hK, e, ho])
                  rw [e] at h
                  exact ⟨by simp [ftOk, hK, e, ho], h.1, h.2⟩ : ftOk l a b F n = true ∧ ftX l a b F n = (ftAt l a b F k).x ∧ ftY l a b F n = (ftAt l a b F k).y))
                have hno := Lib.hid (fun (k : Nat) (hkn : (k : Int) ≤ n) (ho : (ftAt l a b F k).ok = false) => (by
                  have hz : ftOk l a b F n = false := by
                    cases h : ftOk l a b F n
                    · rfl
                    · have h2 : (ftAt l a b F n.toNat).ok = true := by rw [ftOk, Bool.and_eq_true] at h; exact h.2
                      have h3 := ft_mono (k := k) (by omega) h2
                      rw [ho] at h3; cases h3
                  exact ⟨hz, (ft_no hz).1, (ft_no hz).2⟩ : ftOk l a b F n = false ∧ ftX l a b F n = 0 ∧ ftY l a b F n = 0))
                have ham := Lib.hid (@ft_am l a b F l0)
                generalize ftOk l a b F n = AB at *
                generalize ftX l a b F n = AX at *
                generalize ftY l a b F n = AY at *
                have hW := Lib.hid (fun k W => whole9s k W)
                clear hK
                go_enter Try.func5, Try.ntmps5
                go_wp2_with (first | (go_at_call 12; refine (one_spec _ _).mono ?_; rintro e w2 ⟨rfl, rfl⟩; first | rw [h1] | rw [h2] | rw [h3] | rw [h4]) | (go_at_call 13; refine (in_spec _ _ _ _).mono ?_; rintro e w2 ⟨rfl, rfl⟩; rw [hn]))
                refine (hW.out 0 _).mono ?_
                rintro e w1 ⟨rfl, hb1⟩
                have hR : Res8 w.heap.size w1 := Res8.later (Res8.new _ _ _ _) hb1
                have hbc : Below w.heap.size w w1 := bstep (by (repeat (first | with_reducible exact Below.refl _ _ | with_reducible assumption | with_reducible refine balloc ?_ _ | with_reducible refine bdrew ?_ | with_reducible refine below_drewN ?_ _ | with_reducible refine bset ?_ ?_ _ | with_reducible exact Nat.le_refl _ | with_reducible refine bsize ?_ | (dsimp only; refine Nat.le_trans ?_ (Nat.le_add_right _ _)) | with_reducible refine Nat.le_trans ?_ (Nat.le_add_right _ _) | (with_reducible refine bstep ?_ (by assumption))))) hb1
                obtain ⟨zx, zy, z1, z2, z3, z4, zw⟩ := hR
                replace hR : Res8 w.heap.size w1 := ⟨zx, zy, z1, z2, z3, z4, zw⟩
                clear hb1 z1 z2 z3 z4
                go_wp2_with fail
                refine (hW.out l _).mono ?_
                rintro e w2 ⟨rfl, hb2⟩
                have hRt : Res8 w1.heap.size w2 := Res8.later (Res8.new _ _ _ _) hb2
                have t0 : w2.cell? ⟨w1.heap.size, 0, none⟩ = some (.int .i64 0) := keepa hb2 (by first | (simp; done) | (simp; omega)) (by simp [go_sem])
                have t1 : w2.cell? ⟨w1.heap.size, 1, none⟩ = some (.int .i64 1) := keepa hb2 (by first | (simp; done) | (simp; omega)) (by simp [go_sem])
                replace hR := hR.later (bstep (by (repeat (first | with_reducible exact Below.refl _ _ | with_reducible assumption | with_reducible refine balloc ?_ _ | with_reducible refine bdrew ?_ | with_reducible refine below_drewN ?_ _ | with_reducible refine bset ?_ ?_ _ | with_reducible exact Nat.le_refl _ | with_reducible refine bsize ?_ | (dsimp only; refine Nat.le_trans ?_ (Nat.le_add_right _ _)) | with_reducible refine Nat.le_trans ?_ (Nat.le_add_right _ _) | (with_reducible refine bstep ?_ (by assumption))))) hb2)
                replace hbc : Below w.heap.size w w2 := bstep (by (repeat (first | with_reducible exact Below.refl _ _ | with_reducible assumption | with_reducible refine balloc ?_ _ | with_reducible refine bdrew ?_ | with_reducible refine below_drewN ?_ _ | with_reducible refine bset ?_ ?_ _ | with_reducible exact Nat.le_refl _ | with_reducible refine bsize ?_ | (dsimp only; refine Nat.le_trans ?_ (Nat.le_add_right _ _)) | with_reducible refine Nat.le_trans ?_ (Nat.le_add_right _ _) | (with_reducible refine bstep ?_ (by assumption))))) hb2
                obtain ⟨yx, yy, y1, y2, y3, y4, zt⟩ := hRt
                replace hRt : Res8 w1.heap.size w2 := ⟨yx, yy, y1, y2, y3, y4, zt⟩
                clear hb2 y1 y2 y3 y4
                have e01 : ¬ (w.heap.size = w1.heap.size) := by omega
                have e10 : ¬ (w1.heap.size = w.heap.size) := by omega
                have e02 : ¬ (w.heap.size = w2.heap.size) := by omega
                have e20 : ¬ (w2.heap.size = w.heap.size) := by omega
                have e12 : ¬ (w1.heap.size = w2.heap.size) := by omega
                have e21 : ¬ (w2.heap.size = w1.heap.size) := by omega
                have g01 : w.heap.size ≤ w1.heap.size := by omega
                have g02 : w.heap.size ≤ w2.heap.size := by omega
                go_wp2
                go_loopw [14] (fun i wr => ∃ k : Nat, (k : Int) ≤ n ∧ i = .int .i64 k ∧ Hid ((ftAt l a b F k).ok = true) ∧ wr.cell? ⟨w1.heap.size, 0, none⟩ = some (.int .i64 (ftAt l a b F k).x) ∧ wr.cell? ⟨w1.heap.size, 1, none⟩ = some (.int .i64 (ftAt l a b F k).y) ∧ wr.cell? ⟨w2.heap.size, 0, none⟩ = some (.int .i64 (ftAt l a b F k).g) ∧ wr.cell? ⟨w2.heap.size, 1, none⟩ = some (.int .i64 (ftAt l a b F k).h) ∧ Res8 w1.heap.size wr ∧ Res8 w2.heap.size wr ∧ Res8 w.heap.size wr ∧ Below w.heap.size w wr) (fun i _ => n.toNat - (intOf i).toNat)
                case atStart =>
                  refine ⟨0, by omega, rfl, Lib.hid rfl, ?_, ?_, ?_, ?_, hRt.alloc _, Res8.new _ _ _ _, hR.alloc _, ?_⟩
                  · simp [go_sem, ftAt, t0, zt, e12, e21]
                  · simp [go_sem, ftAt, t1, zt, e12, e21]
                  · simp [go_sem, ftAt]
                  · simp [go_sem, ftAt]
                  · (repeat (first | with_reducible exact Below.refl _ _ | with_reducible assumption | with_reducible refine balloc ?_ _ | with_reducible refine bdrew ?_ | with_reducible refine below_drewN ?_ _ | with_reducible refine bset ?_ ?_ _ | with_reducible exact Nat.le_refl _ | with_reducible refine bsize ?_ | (dsimp only; refine Nat.le_trans ?_ (Nat.le_add_right _ _)) | with_reducible refine Nat.le_trans ?_ (Nat.le_add_right _ _) | (with_reducible refine bstep ?_ (by assumption))))
                case round =>
                  obtain ⟨k, hkn, rfl, hok, c0x, c0y, c0g, c0h, hRt, hRl, hR, hbr⟩ := hrel
                  by_cases hlt : (k : Int) < n
                  · have hm := ham.out k hok.out
                    have A1 := am_of _ _ hm.1
                    have A2 := am_of _ _ hm.2
                    have hstep : (ftAt l a b F (k + 1)).ok = ((ftAt l a b F k).ok && (lowB (ftAt l a b F k).g ((ftAt l a b F k).h * (F + ftTo a b k)) && lowB ((ftAt l a b F k).x * lowD (ftAt l a b F k).g ((ftAt l a b F k).h * (F + ftTo a b k)) + lowN (ftAt l a b F k).g ((ftAt l a b F k).h * (F + ftTo a b k)) * (ftAt l a b F k).y) ((ftAt l a b F k).y * lowD (ftAt l a b F k).g ((ftAt l a b F k).h * (F + ftTo a b k))) && lowB ((ftAt l a b F k).g * (F - ftFr a b k)) ((ftAt l a b F k).h * (F + ftTo a b k)))) := rfl
                    rw [hok.out, Bool.true_and] at hstep
                    have hval : (lowN ((ftAt l a b F k).x * lowD (ftAt l a b F k).g ((ftAt l a b F k).h * (F + ftTo a b k)) + lowN (ftAt l a b F k).g ((ftAt l a b F k).h * (F + ftTo a b k)) * (ftAt l a b F k).y) ((ftAt l a b F k).y * lowD (ftAt l a b F k).g ((ftAt l a b F k).h * (F + ftTo a b k))) = (ftAt l a b F (k + 1)).x ∧ lowD ((ftAt l a b F k).x * lowD (ftAt l a b F k).g ((ftAt l a b F k).h * (F + ftTo a b k)) + lowN (ftAt l a b F k).g ((ftAt l a b F k).h * (F + ftTo a b k)) * (ftAt l a b F k).y) ((ftAt l a b F k).y * lowD (ftAt l a b F k).g ((ftAt l a b F k).h * (F + ftTo a b k))) = (ftAt l a b F (k + 1)).y) ∧ lowN ((ftAt l a b F k).g * (F - ftFr a b k)) ((ftAt l a b F k).h * (F + ftTo a b k)) = (ftAt l a b F (k + 1)).g ∧ lowD ((ftAt l a b F k).g * (F - ftFr a b k)) ((ftAt l a b F k).h * (F + ftTo a b k)) = (ftAt l a b F (k + 1)).h := ⟨⟨rfl, rfl⟩, rfl, rfl⟩
                    have hfk := ft_fr a b F a0 c0 k
                    have hno1 := hno.out (k + 1) (by omega)
                    have hpar : (k % 2 = 0 ∧ ftFr a b k = a ∧ ftTo a b k = b) ∨ (k % 2 = 1 ∧ ftFr a b k = b ∧ ftTo a b k = a) := by
                      unfold ftFr ftTo
                      by_cases h : k % 2 = 0
                      · rw [if_pos h, if_pos h]; exact Or.inl ⟨h, rfl, rfl⟩
                      · rw [if_neg h, if_neg h]; exact Or.inr ⟨by omega, rfl, rfl⟩
                    rw [hstep] at hno1
                    have hnx := Lib.hid hstep
                    generalize (ftAt l a b F k).x = x at *
                    generalize (ftAt l a b F k).y = y at *
                    generalize (ftAt l a b F k).g = g at *
                    generalize (ftAt l a b F k).h = h at *
                    generalize ftFr a b k = fr at *
                    generalize ftTo a b k = nx at *
                    clear hm hstep
                    -- the products
                    have m1 := mul_bd h (F + nx) (by have := A2.c; omega) A2.d (by omega) (by omega)
                    have m1p : 0 < h * (F + nx) := Int.mul_pos (by have := A2.c; omega) (by omega)
                    have m2 := mul_bd g (F - fr) A2.a A2.b (by omega) (by omega)
                    have HM1 := Lib.hid (fun W => make_spec g (h * (F + nx)) A2.a (by omega) (by have := A2.b; omega) (by omega) W)
                    have HM3 := Lib.hid (fun W => make_spec (g * (F - fr)) (h * (F + nx)) m2.1 (by omega) (by omega) (by omega) W)
                    have hc := A2.c
                    have hd := A2.d
                    clear A2
                    have hvx := Lib.hid hval
                    clear hval
                    rcases hpar with ⟨hp, hfr, hto⟩ | ⟨hp, hfr, hto⟩
                    · have hk2 : Int.tmod (k : Int) 2 = 0 := by rw [Int.tmod_eq_emod_of_nonneg (by omega)]; omega
                      subst hfr hto
                      clear hp
                      cases hB1 : lowB g (h * (F + nx))
                      · have ee := Lib.hid (hno1 (by rw [hB1]; rfl))
                        have HMa := HM1.out
                        rw [hB1] at HMa
                        replace HMa := Lib.hid HMa
                        clear hno1 hvx hnx HM1 HM3 hB1
                        go_wp2_with fail
                        refine (HMa.out _).mono ?_
                        rintro e w3 ⟨rfl, hb3⟩
                        replace hR := hR.later (bstep (by (repeat (first | with_reducible exact Below.refl _ _ | with_reducible assumption | with_reducible refine balloc ?_ _ | with_reducible refine bdrew ?_ | with_reducible refine below_drewN ?_ _ | with_reducible refine bset ?_ ?_ _ | with_reducible exact Nat.le_refl _ | with_reducible refine bsize ?_ | (dsimp only; refine Nat.le_trans ?_ (Nat.le_add_right _ _)) | with_reducible refine Nat.le_trans ?_ (Nat.le_add_right _ _) | (with_reducible refine bstep ?_ (by assumption))))) hb3)
                        obtain ⟨rx, ry, r1, r2, r3, r4, rz⟩ := hR
                        go_wp2
                        refine bodyPost_ret (v := .tuple #[.agg #[.int .i64 0, .int .i64 0], .bool false]) (by simp only [results, Try.results5]; go_simp) rfl ?_
                        refine ⟨by rw [ee.out.1, ee.out.2.1, ee.out.2.2], ?_⟩
                        (repeat (first | with_reducible exact Below.refl _ _ | with_reducible assumption | with_reducible refine balloc ?_ _ | with_reducible refine bdrew ?_ | with_reducible refine below_drewN ?_ _ | with_reducible refine bset ?_ ?_ _ | with_reducible exact Nat.le_refl _ | with_reducible refine bsize ?_ | (dsimp only; refine Nat.le_trans ?_ (Nat.le_add_right _ _)) | with_reducible refine Nat.le_trans ?_ (Nat.le_add_right _ _) | (with_reducible refine bstep ?_ (by assumption))))
                      · have hpq := am_of _ _ (amB_low g (h * (F + nx)) hB1)
                        have HMa := HM1.out
                        rw [hB1] at HMa
                        replace HMa := Lib.hid HMa
                        have HA := Lib.hid (fun W => amAdd_spec x y (lowN g (h * (F + nx))) (lowD g (h * (F + nx))) A1 hpq W)
                        rw [hB1, Bool.true_and] at hno1
                        have hnx2 := hnx.out
                        rw [hB1, Bool.true_and] at hnx2
                        clear hnx HM1 hpq A1 hB1
                        generalize lowN g (h * (F + nx)) = p at *
                        generalize lowD g (h * (F + nx)) = q at *
                        generalize hX : x * q + p * y = X at *
                        generalize hY : y * q = Y at *
                        clear hX hY
                        cases hB2 : lowB X Y
                        · have ee := Lib.hid (hno1 (by rw [hB2]; rfl))
                          have HAa := HA.out
                          rw [hB2] at HAa
                          replace HAa := Lib.hid HAa
                          clear hno1 hvx hnx2 HA HM3 hB2
                          have zT : w1.heap.size < wr.heap.size := by obtain ⟨_, _, _, _, _, _, q⟩ := hRt; exact q
                          have zL : w2.heap.size < wr.heap.size := by obtain ⟨_, _, _, _, _, _, q⟩ := hRl; exact q
                          go_wp2_with fail
                          refine (HMa.out _).mono ?_
                          rintro e w3 ⟨rfl, hb3⟩
                          have rb : Below wr.heap.size wr w3 := bstep (by (repeat (first | with_reducible exact Below.refl _ _ | with_reducible assumption | with_reducible refine balloc ?_ _ | with_reducible refine bdrew ?_ | with_reducible refine below_drewN ?_ _ | with_reducible refine bset ?_ ?_ _ | with_reducible exact Nat.le_refl _ | with_reducible refine bsize ?_ | (dsimp only; refine Nat.le_trans ?_ (Nat.le_add_right _ _)) | with_reducible refine Nat.le_trans ?_ (Nat.le_add_right _ _) | (with_reducible refine bstep ?_ (by assumption))))) hb3
                          replace c0x := keepa rb zT c0x
                          replace c0y := keepa rb zT c0y
                          replace c0g := keepa rb zL c0g
                          replace c0h := keepa rb zL c0h
                          replace hRt := hRt.later rb
                          replace hRl := hRl.later rb
                          replace hR := hR.later rb
                          replace zT := Nat.lt_of_lt_of_le zT rb.size
                          replace zL := Nat.lt_of_lt_of_le zL rb.size
                          replace hbr : Below w.heap.size w w3 := bstep hbr rb
                          clear rb hb3
                          go_wp2_with fail
                          refine (HAa.out _).mono ?_
                          rintro e w4 ⟨rfl, hb4⟩
                          have rb : Below w3.heap.size w3 w4 := bstep (by (repeat (first | with_reducible exact Below.refl _ _ | with_reducible assumption | with_reducible refine balloc ?_ _ | with_reducible refine bdrew ?_ | with_reducible refine below_drewN ?_ _ | with_reducible refine bset ?_ ?_ _ | with_reducible exact Nat.le_refl _ | with_reducible refine bsize ?_ | (dsimp only; refine Nat.le_trans ?_ (Nat.le_add_right _ _)) | with_reducible refine Nat.le_trans ?_ (Nat.le_add_right _ _) | (with_reducible refine bstep ?_ (by assumption))))) hb4
                          replace c0x := keepa rb zT c0x
                          replace c0y := keepa rb zT c0y
                          replace c0g := keepa rb zL c0g
                          replace c0h := keepa rb zL c0h
                          replace hRt := hRt.later rb
                          replace hRl := hRl.later rb
                          replace hR := hR.later rb
                          replace zT := Nat.lt_of_lt_of_le zT rb.size
                          replace zL := Nat.lt_of_lt_of_le zL rb.size
                          replace hbr : Below w.heap.size w w4 := bstep hbr rb
                          clear rb hb4
                          obtain ⟨rx, ry, r1, r2, r3, r4, rz⟩ := hR
                          go_wp2
                          refine bodyPost_ret (v := .tuple #[.agg #[.int .i64 0, .int .i64 0], .bool false]) (by simp only [results, Try.results5]; go_simp) rfl ?_
                          refine ⟨by rw [ee.out.1, ee.out.2.1, ee.out.2.2], ?_⟩
                          (repeat (first | with_reducible exact Below.refl _ _ | with_reducible assumption | with_reducible refine balloc ?_ _ | with_reducible refine bdrew ?_ | with_reducible refine below_drewN ?_ _ | with_reducible refine bset ?_ ?_ _ | with_reducible exact Nat.le_refl _ | with_reducible refine bsize ?_ | (dsimp only; refine Nat.le_trans ?_ (Nat.le_add_right _ _)) | with_reducible refine Nat.le_trans ?_ (Nat.le_add_right _ _) | (with_reducible refine bstep ?_ (by assumption))))
                        · have HAa := HA.out
                          rw [hB2] at HAa
                          replace HAa := Lib.hid HAa
                          rw [hB2, Bool.true_and] at hno1 hnx2
                          clear HA hB2
                          have h40 : True := trivial
                          cases hB3 : lowB (g * (F - fr)) (h * (F + nx))
                          · have ee := Lib.hid (hno1 hB3)
                            have HM3a := HM3.out
                            rw [hB3] at HM3a
                            replace HM3a := Lib.hid HM3a
                            clear hno1 hvx hnx2 HM3 hB3
                            have zT : w1.heap.size < wr.heap.size := by obtain ⟨_, _, _, _, _, _, q⟩ := hRt; exact q
                            have zL : w2.heap.size < wr.heap.size := by obtain ⟨_, _, _, _, _, _, q⟩ := hRl; exact q
                            go_wp2_with fail
                            refine (HMa.out _).mono ?_
                            rintro e w3 ⟨rfl, hb3⟩
                            have rb : Below wr.heap.size wr w3 := bstep (by (repeat (first | with_reducible exact Below.refl _ _ | with_reducible assumption | with_reducible refine balloc ?_ _ | with_reducible refine bdrew ?_ | with_reducible refine below_drewN ?_ _ | with_reducible refine bset ?_ ?_ _ | with_reducible exact Nat.le_refl _ | with_reducible refine bsize ?_ | (dsimp only; refine Nat.le_trans ?_ (Nat.le_add_right _ _)) | with_reducible refine Nat.le_trans ?_ (Nat.le_add_right _ _) | (with_reducible refine bstep ?_ (by assumption))))) hb3
                            replace c0x := keepa rb zT c0x
                            replace c0y := keepa rb zT c0y
                            replace c0g := keepa rb zL c0g
                            replace c0h := keepa rb zL c0h
                            replace hRt := hRt.later rb
                            replace hRl := hRl.later rb
                            replace hR := hR.later rb
                            replace zT := Nat.lt_of_lt_of_le zT rb.size
                            replace zL := Nat.lt_of_lt_of_le zL rb.size
                            replace hbr : Below w.heap.size w w3 := bstep hbr rb
                            clear rb hb3
                            go_wp2_with fail
                            refine (HAa.out _).mono ?_
                            rintro e w4 ⟨rfl, hb4⟩
                            have rb : Below w3.heap.size w3 w4 := bstep (by (repeat (first | with_reducible exact Below.refl _ _ | with_reducible assumption | with_reducible refine balloc ?_ _ | with_reducible refine bdrew ?_ | with_reducible refine below_drewN ?_ _ | with_reducible refine bset ?_ ?_ _ | with_reducible exact Nat.le_refl _ | with_reducible refine bsize ?_ | (dsimp only; refine Nat.le_trans ?_ (Nat.le_add_right _ _)) | with_reducible refine Nat.le_trans ?_ (Nat.le_add_right _ _) | (with_reducible refine bstep ?_ (by assumption))))) hb4
                            replace c0x := keepa rb zT c0x
                            replace c0y := keepa rb zT c0y
                            replace c0g := keepa rb zL c0g
                            replace c0h := keepa rb zL c0h
                            replace hRt := hRt.later rb
                            replace hRl := hRl.later rb
                            replace hR := hR.later rb
                            replace zT := Nat.lt_of_lt_of_le zT rb.size
                            replace zL := Nat.lt_of_lt_of_le zL rb.size
                            replace hbr : Below w.heap.size w w4 := bstep hbr rb
                            clear rb hb4
                            obtain ⟨xt, yt, s1, s2, s3, s4, s5⟩ := hRt
                            have n14 : ¬ (w1.heap.size = w4.heap.size) := by omega
                            have n41 : ¬ (w4.heap.size = w1.heap.size) := by omega
                            have n24 : ¬ (w2.heap.size = w4.heap.size) := by omega
                            have n42 : ¬ (w4.heap.size = w2.heap.size) := by omega
                            clear c0x c0y
                            go_wp2_with fail
                            refine (HM3a.out _).mono ?_
                            rintro e w5 ⟨rfl, hb5⟩
                            have zl5 : w2.heap.size < w5.heap.size := Nat.lt_of_lt_of_le (by simp; omega) hb5.size
                            have zt5 : w1.heap.size < w5.heap.size := Nat.lt_of_lt_of_le (by simp; omega) hb5.size
                            have q0 : w5.cell? ⟨w1.heap.size, 0, none⟩ = some (.int .i64 (lowN X Y)) := keepa hb5 (by simp; omega) (by simp [go_sem, *])
                            have q1 : w5.cell? ⟨w1.heap.size, 1, none⟩ = some (.int .i64 (lowD X Y)) := keepa hb5 (by simp; omega) (by simp [go_sem, *])
                            have q2 : w5.frozen? ⟨w1.heap.size, 0, none⟩ = false := keepz hb5 (by simp; omega) (by simp [go_sem, *])
                            have q3 : w5.frozen? ⟨w1.heap.size, 1, none⟩ = false := keepz hb5 (by simp; omega) (by simp [go_sem, *])
                            obtain ⟨xl, yl, o1, o2, o3, o4, o5⟩ := hRl
                            clear o1 o2
                            have p0 : w5.cell? ⟨w2.heap.size, 0, none⟩ = some (.int .i64 g) := keepa hb5 (by simp; omega) (by simp [go_sem, *])
                            have p1 : w5.cell? ⟨w2.heap.size, 1, none⟩ = some (.int .i64 h) := keepa hb5 (by simp; omega) (by simp [go_sem, *])
                            have p2 : w5.frozen? ⟨w2.heap.size, 0, none⟩ = false := keepz hb5 (by simp; omega) (by simp [go_sem, *])
                            have p3 : w5.frozen? ⟨w2.heap.size, 1, none⟩ = false := keepz hb5 (by simp; omega) (by simp [go_sem, *])
                            obtain ⟨rx, ry, i1, i2, i3, i4, i5⟩ := hR
                            have r1 : w5.cell? ⟨w.heap.size, 0, none⟩ = some rx := keepa hb5 (by simp; omega) (by simp [go_sem, *])
                            have r2 : w5.cell? ⟨w.heap.size, 1, none⟩ = some ry := keepa hb5 (by simp; omega) (by simp [go_sem, *])
                            have r3 : w5.frozen? ⟨w.heap.size, 0, none⟩ = false := keepz hb5 (by simp; omega) (by simp [go_sem, *])
                            have r4 : w5.frozen? ⟨w.heap.size, 1, none⟩ = false := keepz hb5 (by simp; omega) (by simp [go_sem, *])
                            have rz : w.heap.size < w5.heap.size := Nat.lt_of_lt_of_le (by simp; omega) hb5.size
                            have hb6 : Below w.heap.size w w5 := bstep (by (repeat (first | with_reducible exact Below.refl _ _ | with_reducible assumption | with_reducible refine balloc ?_ _ | with_reducible refine bdrew ?_ | with_reducible refine below_drewN ?_ _ | with_reducible refine bset ?_ ?_ _ | with_reducible exact Nat.le_refl _ | with_reducible refine bsize ?_ | (dsimp only; refine Nat.le_trans ?_ (Nat.le_add_right _ _)) | with_reducible refine Nat.le_trans ?_ (Nat.le_add_right _ _) | (with_reducible refine bstep ?_ (by assumption))))) hb5
                            clear hb5 s1 s2 s3 s4 s5 o3 o4 o5 i1 i2 i3 i4 i5 c0g c0h
                            go_wp2
                            refine bodyPost_ret (v := .tuple #[.agg #[.int .i64 0, .int .i64 0], .bool false]) (by simp only [results, Try.results5]; go_simp) rfl ?_
                            refine ⟨by rw [ee.out.1, ee.out.2.1, ee.out.2.2], ?_⟩
                            (repeat (first | with_reducible exact Below.refl _ _ | with_reducible assumption | with_reducible refine balloc ?_ _ | with_reducible refine bdrew ?_ | with_reducible refine below_drewN ?_ _ | with_reducible refine bset ?_ ?_ _ | with_reducible exact Nat.le_refl _ | with_reducible refine bsize ?_ | (dsimp only; refine Nat.le_trans ?_ (Nat.le_add_right _ _)) | with_reducible refine Nat.le_trans ?_ (Nat.le_add_right _ _) | (with_reducible refine bstep ?_ (by assumption))))
                          · have HM3a := HM3.out
                            rw [hB3] at HM3a
                            replace HM3a := Lib.hid HM3a
                            have hok2 := Lib.hid (hnx2.trans hB3)
                            clear hno1 hnx2 HM3 hB3
                            have zT : w1.heap.size < wr.heap.size := by obtain ⟨_, _, _, _, _, _, q⟩ := hRt; exact q
                            have zL : w2.heap.size < wr.heap.size := by obtain ⟨_, _, _, _, _, _, q⟩ := hRl; exact q
                            go_wp2_with fail
                            refine (HMa.out _).mono ?_
                            rintro e w3 ⟨rfl, hb3⟩
                            have rb : Below wr.heap.size wr w3 := bstep (by (repeat (first | with_reducible exact Below.refl _ _ | with_reducible assumption | with_reducible refine balloc ?_ _ | with_reducible refine bdrew ?_ | with_reducible refine below_drewN ?_ _ | with_reducible refine bset ?_ ?_ _ | with_reducible exact Nat.le_refl _ | with_reducible refine bsize ?_ | (dsimp only; refine Nat.le_trans ?_ (Nat.le_add_right _ _)) | with_reducible refine Nat.le_trans ?_ (Nat.le_add_right _ _) | (with_reducible refine bstep ?_ (by assumption))))) hb3
                            replace c0x := keepa rb zT c0x
                            replace c0y := keepa rb zT c0y
                            replace c0g := keepa rb zL c0g
                            replace c0h := keepa rb zL c0h
                            replace hRt := hRt.later rb
                            replace hRl := hRl.later rb
                            replace hR := hR.later rb
                            replace zT := Nat.lt_of_lt_of_le zT rb.size
                            replace zL := Nat.lt_of_lt_of_le zL rb.size
                            replace hbr : Below w.heap.size w w3 := bstep hbr rb
                            clear rb hb3
                            go_wp2_with fail
                            refine (HAa.out _).mono ?_
                            rintro e w4 ⟨rfl, hb4⟩
                            have rb : Below w3.heap.size w3 w4 := bstep (by (repeat (first | with_reducible exact Below.refl _ _ | with_reducible assumption | with_reducible refine balloc ?_ _ | with_reducible refine bdrew ?_ | with_reducible refine below_drewN ?_ _ | with_reducible refine bset ?_ ?_ _ | with_reducible exact Nat.le_refl _ | with_reducible refine bsize ?_ | (dsimp only; refine Nat.le_trans ?_ (Nat.le_add_right _ _)) | with_reducible refine Nat.le_trans ?_ (Nat.le_add_right _ _) | (with_reducible refine bstep ?_ (by assumption))))) hb4
                            replace c0x := keepa rb zT c0x
                            replace c0y := keepa rb zT c0y
                            replace c0g := keepa rb zL c0g
                            replace c0h := keepa rb zL c0h
                            replace hRt := hRt.later rb
                            replace hRl := hRl.later rb
                            replace hR := hR.later rb
                            replace zT := Nat.lt_of_lt_of_le zT rb.size
                            replace zL := Nat.lt_of_lt_of_le zL rb.size
                            replace hbr : Below w.heap.size w w4 := bstep hbr rb
                            clear rb hb4
                            obtain ⟨xt, yt, s1, s2, s3, s4, s5⟩ := hRt
                            have n14 : ¬ (w1.heap.size = w4.heap.size) := by omega
                            have n41 : ¬ (w4.heap.size = w1.heap.size) := by omega
                            have n24 : ¬ (w2.heap.size = w4.heap.size) := by omega
                            have n42 : ¬ (w4.heap.size = w2.heap.size) := by omega
                            clear c0x c0y
                            go_wp2_with fail
                            refine (HM3a.out _).mono ?_
                            rintro e w5 ⟨rfl, hb5⟩
                            have zl5 : w2.heap.size < w5.heap.size := Nat.lt_of_lt_of_le (by simp; omega) hb5.size
                            have zt5 : w1.heap.size < w5.heap.size := Nat.lt_of_lt_of_le (by simp; omega) hb5.size
                            have q0 : w5.cell? ⟨w1.heap.size, 0, none⟩ = some (.int .i64 (lowN X Y)) := keepa hb5 (by simp; omega) (by simp [go_sem, *])
                            have q1 : w5.cell? ⟨w1.heap.size, 1, none⟩ = some (.int .i64 (lowD X Y)) := keepa hb5 (by simp; omega) (by simp [go_sem, *])
                            have q2 : w5.frozen? ⟨w1.heap.size, 0, none⟩ = false := keepz hb5 (by simp; omega) (by simp [go_sem, *])
                            have q3 : w5.frozen? ⟨w1.heap.size, 1, none⟩ = false := keepz hb5 (by simp; omega) (by simp [go_sem, *])
                            obtain ⟨xl, yl, o1, o2, o3, o4, o5⟩ := hRl
                            clear o1 o2
                            have p0 : w5.cell? ⟨w2.heap.size, 0, none⟩ = some (.int .i64 g) := keepa hb5 (by simp; omega) (by simp [go_sem, *])
                            have p1 : w5.cell? ⟨w2.heap.size, 1, none⟩ = some (.int .i64 h) := keepa hb5 (by simp; omega) (by simp [go_sem, *])
                            have p2 : w5.frozen? ⟨w2.heap.size, 0, none⟩ = false := keepz hb5 (by simp; omega) (by simp [go_sem, *])
                            have p3 : w5.frozen? ⟨w2.heap.size, 1, none⟩ = false := keepz hb5 (by simp; omega) (by simp [go_sem, *])
                            obtain ⟨rx, ry, i1, i2, i3, i4, i5⟩ := hR
                            have r1 : w5.cell? ⟨w.heap.size, 0, none⟩ = some rx := keepa hb5 (by simp; omega) (by simp [go_sem, *])
                            have r2 : w5.cell? ⟨w.heap.size, 1, none⟩ = some ry := keepa hb5 (by simp; omega) (by simp [go_sem, *])
                            have r3 : w5.frozen? ⟨w.heap.size, 0, none⟩ = false := keepz hb5 (by simp; omega) (by simp [go_sem, *])
                            have r4 : w5.frozen? ⟨w.heap.size, 1, none⟩ = false := keepz hb5 (by simp; omega) (by simp [go_sem, *])
                            have rz : w.heap.size < w5.heap.size := Nat.lt_of_lt_of_le (by simp; omega) hb5.size
                            have hb6 : Below w.heap.size w w5 := bstep (by (repeat (first | with_reducible exact Below.refl _ _ | with_reducible assumption | with_reducible refine balloc ?_ _ | with_reducible refine bdrew ?_ | with_reducible refine below_drewN ?_ _ | with_reducible refine bset ?_ ?_ _ | with_reducible exact Nat.le_refl _ | with_reducible refine bsize ?_ | (dsimp only; refine Nat.le_trans ?_ (Nat.le_add_right _ _)) | with_reducible refine Nat.le_trans ?_ (Nat.le_add_right _ _) | (with_reducible refine bstep ?_ (by assumption))))) hb5
                            clear hb5 s1 s2 s3 s4 s5 o3 o4 o5 i1 i2 i3 i4 i5 c0g c0h
                            go_wp2
                            go_roundw
                            case rel =>
                              have hv := hvx.out
                              refine ⟨k + 1, by omega, by go_num, hok2, ?_, ?_, ?_, ?_, ⟨.int .i64 (lowN X Y), .int .i64 (lowD X Y), ?_, ?_, ?_, ?_, ?_⟩, ⟨.int .i64 (lowN (g * (F - fr)) (h * (F + nx))), .int .i64 (lowD (g * (F - fr)) (h * (F + nx))), ?_, ?_, ?_, ?_, ?_⟩, ⟨rx, ry, ?_, ?_, ?_, ?_, ?_⟩, ?_⟩
                              · rw [← hv.1.1]; clear hv; simp [go_sem, *]
                              · rw [← hv.1.2]; clear hv; simp [go_sem, *]
                              · rw [← hv.2.1]; clear hv; simp [go_sem, *]
                              · rw [← hv.2.2]; clear hv; simp [go_sem, *]
                              all_goals clear hv
                              all_goals first | ((repeat (first | with_reducible exact Below.refl _ _ | with_reducible assumption | with_reducible refine balloc ?_ _ | with_reducible refine bdrew ?_ | with_reducible refine below_drewN ?_ _ | with_reducible refine bset ?_ ?_ _ | with_reducible exact Nat.le_refl _ | with_reducible refine bsize ?_ | (dsimp only; refine Nat.le_trans ?_ (Nat.le_add_right _ _)) | with_reducible refine Nat.le_trans ?_ (Nat.le_add_right _ _) | (with_reducible refine bstep ?_ (by assumption)))); done) | (simp [go_sem, *]; done) | (simp [go_sem, *]; rfl) | (simp; omega)
                            case measure => simp [intOf]; omega
                    · have hk2 : Int.tmod (k : Int) 2 = 1 := by rw [Int.tmod_eq_emod_of_nonneg (by omega)]; omega
                      subst hfr hto
                      clear hp
                      cases hB1 : lowB g (h * (F + nx))
                      · have ee := Lib.hid (hno1 (by rw [hB1]; rfl))
                        have HMa := HM1.out
                        rw [hB1] at HMa
                        replace HMa := Lib.hid HMa
                        clear hno1 hvx hnx HM1 HM3 hB1
                        go_wp2_with fail
                        refine (HMa.out _).mono ?_
                        rintro e w3 ⟨rfl, hb3⟩
                        replace hR := hR.later (bstep (by (repeat (first | with_reducible exact Below.refl _ _ | with_reducible assumption | with_reducible refine balloc ?_ _ | with_reducible refine bdrew ?_ | with_reducible refine below_drewN ?_ _ | with_reducible refine bset ?_ ?_ _ | with_reducible exact Nat.le_refl _ | with_reducible refine bsize ?_ | (dsimp only; refine Nat.le_trans ?_ (Nat.le_add_right _ _)) | with_reducible refine Nat.le_trans ?_ (Nat.le_add_right _ _) | (with_reducible refine bstep ?_ (by assumption))))) hb3)
                        obtain ⟨rx, ry, r1, r2, r3, r4, rz⟩ := hR
                        go_wp2
                        refine bodyPost_ret (v := .tuple #[.agg #[.int .i64 0, .int .i64 0], .bool false]) (by simp only [results, Try.results5]; go_simp) rfl ?_
                        refine ⟨by rw [ee.out.1, ee.out.2.1, ee.out.2.2], ?_⟩
                        (repeat (first | with_reducible exact Below.refl _ _ | with_reducible assumption | with_reducible refine balloc ?_ _ | with_reducible refine bdrew ?_ | with_reducible refine below_drewN ?_ _ | with_reducible refine bset ?_ ?_ _ | with_reducible exact Nat.le_refl _ | with_reducible refine bsize ?_ | (dsimp only; refine Nat.le_trans ?_ (Nat.le_add_right _ _)) | with_reducible refine Nat.le_trans ?_ (Nat.le_add_right _ _) | (with_reducible refine bstep ?_ (by assumption))))
                      · have hpq := am_of _ _ (amB_low g (h * (F + nx)) hB1)
                        have HMa := HM1.out
                        rw [hB1] at HMa
                        replace HMa := Lib.hid HMa
                        have HA := Lib.hid (fun W => amAdd_spec x y (lowN g (h * (F + nx))) (lowD g (h * (F + nx))) A1 hpq W)
                        rw [hB1, Bool.true_and] at hno1
                        have hnx2 := hnx.out
                        rw [hB1, Bool.true_and] at hnx2
                        clear hnx HM1 hpq A1 hB1
                        generalize lowN g (h * (F + nx)) = p at *
                        generalize lowD g (h * (F + nx)) = q at *
                        generalize hX : x * q + p * y = X at *
                        generalize hY : y * q = Y at *
                        clear hX hY
                        cases hB2 : lowB X Y
                        · have ee := Lib.hid (hno1 (by rw [hB2]; rfl))
                          have HAa := HA.out
                          rw [hB2] at HAa
                          replace HAa := Lib.hid HAa
                          clear hno1 hvx hnx2 HA HM3 hB2
                          have zT : w1.heap.size < wr.heap.size := by obtain ⟨_, _, _, _, _, _, q⟩ := hRt; exact q
                          have zL : w2.heap.size < wr.heap.size := by obtain ⟨_, _, _, _, _, _, q⟩ := hRl; exact q
                          go_wp2_with fail
                          refine (HMa.out _).mono ?_
                          rintro e w3 ⟨rfl, hb3⟩
                          have rb : Below wr.heap.size wr w3 := bstep (by (repeat (first | with_reducible exact Below.refl _ _ | with_reducible assumption | with_reducible refine balloc ?_ _ | with_reducible refine bdrew ?_ | with_reducible refine below_drewN ?_ _ | with_reducible refine bset ?_ ?_ _ | with_reducible exact Nat.le_refl _ | with_reducible refine bsize ?_ | (dsimp only; refine Nat.le_trans ?_ (Nat.le_add_right _ _)) | with_reducible refine Nat.le_trans ?_ (Nat.le_add_right _ _) | (with_reducible refine bstep ?_ (by assumption))))) hb3
                          replace c0x := keepa rb zT c0x
                          replace c0y := keepa rb zT c0y
                          replace c0g := keepa rb zL c0g
                          replace c0h := keepa rb zL c0h
                          replace hRt := hRt.later rb
                          replace hRl := hRl.later rb
                          replace hR := hR.later rb
                          replace zT := Nat.lt_of_lt_of_le zT rb.size
                          replace zL := Nat.lt_of_lt_of_le zL rb.size
                          replace hbr : Below w.heap.size w w3 := bstep hbr rb
                          clear rb hb3
                          go_wp2_with fail
                          refine (HAa.out _).mono ?_
                          rintro e w4 ⟨rfl, hb4⟩
                          have rb : Below w3.heap.size w3 w4 := bstep (by (repeat (first | with_reducible exact Below.refl _ _ | with_reducible assumption | with_reducible refine balloc ?_ _ | with_reducible refine bdrew ?_ | with_reducible refine below_drewN ?_ _ | with_reducible refine bset ?_ ?_ _ | with_reducible exact Nat.le_refl _ | with_reducible refine bsize ?_ | (dsimp only; refine Nat.le_trans ?_ (Nat.le_add_right _ _)) | with_reducible refine Nat.le_trans ?_ (Nat.le_add_right _ _) | (with_reducible refine bstep ?_ (by assumption))))) hb4
                          replace c0x := keepa rb zT c0x
                          replace c0y := keepa rb zT c0y
                          replace c0g := keepa rb zL c0g
                          replace c0h := keepa rb zL c0h
                          replace hRt := hRt.later rb
                          replace hRl := hRl.later rb
                          replace hR := hR.later rb
                          replace zT := Nat.lt_of_lt_of_le zT rb.size
                          replace zL := Nat.lt_of_lt_of_le zL rb.size
                          replace hbr : Below w.heap.size w w4 := bstep hbr rb
                          clear rb hb4
                          obtain ⟨rx, ry, r1, r2, r3, r4, rz⟩ := hR
                          go_wp2
                          refine bodyPost_ret (v := .tuple #[.agg #[.int .i64 0, .int .i64 0], .bool false]) (by simp only [results, Try.results5]; go_simp) rfl ?_
                          refine ⟨by rw [ee.out.1, ee.out.2.1, ee.out.2.2], ?_⟩
                          (repeat (first | with_reducible exact Below.refl _ _ | with_reducible assumption | with_reducible refine balloc ?_ _ | with_reducible refine bdrew ?_ | with_reducible refine below_drewN ?_ _ | with_reducible refine bset ?_ ?_ _ | with_reducible exact Nat.le_refl _ | with_reducible refine bsize ?_ | (dsimp only; refine Nat.le_trans ?_ (Nat.le_add_right _ _)) | with_reducible refine Nat.le_trans ?_ (Nat.le_add_right _ _) | (with_reducible refine bstep ?_ (by assumption))))
                        · have HAa := HA.out
                          rw [hB2] at HAa
                          replace HAa := Lib.hid HAa
                          rw [hB2, Bool.true_and] at hno1 hnx2
                          clear HA hB2
                          have h40 : True := trivial
                          cases hB3 : lowB (g * (F - fr)) (h * (F + nx))
                          · have ee := Lib.hid (hno1 hB3)
                            have HM3a := HM3.out
                            rw [hB3] at HM3a
                            replace HM3a := Lib.hid HM3a
                            clear hno1 hvx hnx2 HM3 hB3
                            have zT : w1.heap.size < wr.heap.size := by obtain ⟨_, _, _, _, _, _, q⟩ := hRt; exact q
                            have zL : w2.heap.size < wr.heap.size := by obtain ⟨_, _, _, _, _, _, q⟩ := hRl; exact q
                            go_wp2_with fail
                            refine (HMa.out _).mono ?_
                            rintro e w3 ⟨rfl, hb3⟩
                            have rb : Below wr.heap.size wr w3 := bstep (by (repeat (first | with_reducible exact Below.refl _ _ | with_reducible assumption | with_reducible refine balloc ?_ _ | with_reducible refine bdrew ?_ | with_reducible refine below_drewN ?_ _ | with_reducible refine bset ?_ ?_ _ | with_reducible exact Nat.le_refl _ | with_reducible refine bsize ?_ | (dsimp only; refine Nat.le_trans ?_ (Nat.le_add_right _ _)) | with_reducible refine Nat.le_trans ?_ (Nat.le_add_right _ _) | (with_reducible refine bstep ?_ (by assumption))))) hb3
                            replace c0x := keepa rb zT c0x
                            replace c0y := keepa rb zT c0y
                            replace c0g := keepa rb zL c0g
                            replace c0h := keepa rb zL c0h
                            replace hRt := hRt.later rb
                            replace hRl := hRl.later rb
                            replace hR := hR.later rb
                            replace zT := Nat.lt_of_lt_of_le zT rb.size
                            replace zL := Nat.lt_of_lt_of_le zL rb.size
                            replace hbr : Below w.heap.size w w3 := bstep hbr rb
                            clear rb hb3
                            go_wp2_with fail
                            refine (HAa.out _).mono ?_
                            rintro e w4 ⟨rfl, hb4⟩
                            have rb : Below w3.heap.size w3 w4 := bstep (by (repeat (first | with_reducible exact Below.refl _ _ | with_reducible assumption | with_reducible refine balloc ?_ _ | with_reducible refine bdrew ?_ | with_reducible refine below_drewN ?_ _ | with_reducible refine bset ?_ ?_ _ | with_reducible exact Nat.le_refl _ | with_reducible refine bsize ?_ | (dsimp only; refine Nat.le_trans ?_ (Nat.le_add_right _ _)) | with_reducible refine Nat.le_trans ?_ (Nat.le_add_right _ _) | (with_reducible refine bstep ?_ (by assumption))))) hb4
                            replace c0x := keepa rb zT c0x
                            replace c0y := keepa rb zT c0y
                            replace c0g := keepa rb zL c0g
                            replace c0h := keepa rb zL c0h
                            replace hRt := hRt.later rb
                            replace hRl := hRl.later rb
                            replace hR := hR.later rb
                            replace zT := Nat.lt_of_lt_of_le zT rb.size
                            replace zL := Nat.lt_of_lt_of_le zL rb.size
                            replace hbr : Below w.heap.size w w4 := bstep hbr rb
                            clear rb hb4
                            obtain ⟨xt, yt, s1, s2, s3, s4, s5⟩ := hRt
                            have n14 : ¬ (w1.heap.size = w4.heap.size) := by omega
                            have n41 : ¬ (w4.heap.size = w1.heap.size) := by omega
                            have n24 : ¬ (w2.heap.size = w4.heap.size) := by omega
                            have n42 : ¬ (w4.heap.size = w2.heap.size) := by omega
                            clear c0x c0y
                            go_wp2_with fail
                            refine (HM3a.out _).mono ?_
                            rintro e w5 ⟨rfl, hb5⟩
                            have zl5 : w2.heap.size < w5.heap.size := Nat.lt_of_lt_of_le (by simp; omega) hb5.size
                            have zt5 : w1.heap.size < w5.heap.size := Nat.lt_of_lt_of_le (by simp; omega) hb5.size
                            have q0 : w5.cell? ⟨w1.heap.size, 0, none⟩ = some (.int .i64 (lowN X Y)) := keepa hb5 (by simp; omega) (by simp [go_sem, *])
                            have q1 : w5.cell? ⟨w1.heap.size, 1, none⟩ = some (.int .i64 (lowD X Y)) := keepa hb5 (by simp; omega) (by simp [go_sem, *])
                            have q2 : w5.frozen? ⟨w1.heap.size, 0, none⟩ = false := keepz hb5 (by simp; omega) (by simp [go_sem, *])
                            have q3 : w5.frozen? ⟨w1.heap.size, 1, none⟩ = false := keepz hb5 (by simp; omega) (by simp [go_sem, *])
                            obtain ⟨xl, yl, o1, o2, o3, o4, o5⟩ := hRl
                            clear o1 o2
                            have p0 : w5.cell? ⟨w2.heap.size, 0, none⟩ = some (.int .i64 g) := keepa hb5 (by simp; omega) (by simp [go_sem, *])
                            have p1 : w5.cell? ⟨w2.heap.size, 1, none⟩ = some (.int .i64 h) := keepa hb5 (by simp; omega) (by simp [go_sem, *])
                            have p2 : w5.frozen? ⟨w2.heap.size, 0, none⟩ = false := keepz hb5 (by simp; omega) (by simp [go_sem, *])
                            have p3 : w5.frozen? ⟨w2.heap.size, 1, none⟩ = false := keepz hb5 (by simp; omega) (by simp [go_sem, *])
                            obtain ⟨rx, ry, i1, i2, i3, i4, i5⟩ := hR
                            have r1 : w5.cell? ⟨w.heap.size, 0, none⟩ = some rx := keepa hb5 (by simp; omega) (by simp [go_sem, *])
                            have r2 : w5.cell? ⟨w.heap.size, 1, none⟩ = some ry := keepa hb5 (by simp; omega) (by simp [go_sem, *])
                            have r3 : w5.frozen? ⟨w.heap.size, 0, none⟩ = false := keepz hb5 (by simp; omega) (by simp [go_sem, *])
                            have r4 : w5.frozen? ⟨w.heap.size, 1, none⟩ = false := keepz hb5 (by simp; omega) (by simp [go_sem, *])
                            have rz : w.heap.size < w5.heap.size := Nat.lt_of_lt_of_le (by simp; omega) hb5.size
                            have hb6 : Below w.heap.size w w5 := bstep (by (repeat (first | with_reducible exact Below.refl _ _ | with_reducible assumption | with_reducible refine balloc ?_ _ | with_reducible refine bdrew ?_ | with_reducible refine below_drewN ?_ _ | with_reducible refine bset ?_ ?_ _ | with_reducible exact Nat.le_refl _ | with_reducible refine bsize ?_ | (dsimp only; refine Nat.le_trans ?_ (Nat.le_add_right _ _)) | with_reducible refine Nat.le_trans ?_ (Nat.le_add_right _ _) | (with_reducible refine bstep ?_ (by assumption))))) hb5
                            clear hb5 s1 s2 s3 s4 s5 o3 o4 o5 i1 i2 i3 i4 i5 c0g c0h
                            go_wp2
                            refine bodyPost_ret (v := .tuple #[.agg #[.int .i64 0, .int .i64 0], .bool false]) (by simp only [results, Try.results5]; go_simp) rfl ?_
                            refine ⟨by rw [ee.out.1, ee.out.2.1, ee.out.2.2], ?_⟩
                            (repeat (first | with_reducible exact Below.refl _ _ | with_reducible assumption | with_reducible refine balloc ?_ _ | with_reducible refine bdrew ?_ | with_reducible refine below_drewN ?_ _ | with_reducible refine bset ?_ ?_ _ | with_reducible exact Nat.le_refl _ | with_reducible refine bsize ?_ | (dsimp only; refine Nat.le_trans ?_ (Nat.le_add_right _ _)) | with_reducible refine Nat.le_trans ?_ (Nat.le_add_right _ _) | (with_reducible refine bstep ?_ (by assumption))))
                          · have HM3a := HM3.out
                            rw [hB3] at HM3a
                            replace HM3a := Lib.hid HM3a
                            have hok2 := Lib.hid (hnx2.trans hB3)
                            clear hno1 hnx2 HM3 hB3
                            have zT : w1.heap.size < wr.heap.size := by obtain ⟨_, _, _, _, _, _, q⟩ := hRt; exact q
                            have zL : w2.heap.size < wr.heap.size := by obtain ⟨_, _, _, _, _, _, q⟩ := hRl; exact q
                            go_wp2_with fail
                            refine (HMa.out _).mono ?_
                            rintro e w3 ⟨rfl, hb3⟩
                            have rb : Below wr.heap.size wr w3 := bstep (by (repeat (first | with_reducible exact Below.refl _ _ | with_reducible assumption | with_reducible refine balloc ?_ _ | with_reducible refine bdrew ?_ | with_reducible refine below_drewN ?_ _ | with_reducible refine bset ?_ ?_ _ | with_reducible exact Nat.le_refl _ | with_reducible refine bsize ?_ | (dsimp only; refine Nat.le_trans ?_ (Nat.le_add_right _ _)) | with_reducible refine Nat.le_trans ?_ (Nat.le_add_right _ _) | (with_reducible refine bstep ?_ (by assumption))))) hb3
                            replace c0x := keepa rb zT c0x
                            replace c0y := keepa rb zT c0y
                            replace c0g := keepa rb zL c0g
                            replace c0h := keepa rb zL c0h
                            replace hRt := hRt.later rb
                            replace hRl := hRl.later rb
                            replace hR := hR.later rb
                            replace zT := Nat.lt_of_lt_of_le zT rb.size
                            replace zL := Nat.lt_of_lt_of_le zL rb.size
                            replace hbr : Below w.heap.size w w3 := bstep hbr rb
                            clear rb hb3
                            go_wp2_with fail
                            refine (HAa.out _).mono ?_
                            rintro e w4 ⟨rfl, hb4⟩
                            have rb : Below w3.heap.size w3 w4 := bstep (by (repeat (first | with_reducible exact Below.refl _ _ | with_reducible assumption | with_reducible refine balloc ?_ _ | with_reducible refine bdrew ?_ | with_reducible refine below_drewN ?_ _ | with_reducible refine bset ?_ ?_ _ | with_reducible exact Nat.le_refl _ | with_reducible refine bsize ?_ | (dsimp only; refine Nat.le_trans ?_ (Nat.le_add_right _ _)) | with_reducible refine Nat.le_trans ?_ (Nat.le_add_right _ _) | (with_reducible refine bstep ?_ (by assumption))))) hb4
                            replace c0x := keepa rb zT c0x
                            replace c0y := keepa rb zT c0y
                            replace c0g := keepa rb zL c0g
                            replace c0h := keepa rb zL c0h
                            replace hRt := hRt.later rb
                            replace hRl := hRl.later rb
                            replace hR := hR.later rb
                            replace zT := Nat.lt_of_lt_of_le zT rb.size
                            replace zL := Nat.lt_of_lt_of_le zL rb.size
                            replace hbr : Below w.heap.size w w4 := bstep hbr rb
                            clear rb hb4
                            obtain ⟨xt, yt, s1, s2, s3, s4, s5⟩ := hRt
                            have n14 : ¬ (w1.heap.size = w4.heap.size) := by omega
                            have n41 : ¬ (w4.heap.size = w1.heap.size) := by omega
                            have n24 : ¬ (w2.heap.size = w4.heap.size) := by omega
                            have n42 : ¬ (w4.heap.size = w2.heap.size) := by omega
                            clear c0x c0y
                            go_wp2_with fail
                            refine (HM3a.out _).mono ?_
                            rintro e w5 ⟨rfl, hb5⟩
                            have zl5 : w2.heap.size < w5.heap.size := Nat.lt_of_lt_of_le (by simp; omega) hb5.size
                            have zt5 : w1.heap.size < w5.heap.size := Nat.lt_of_lt_of_le (by simp; omega) hb5.size
                            have q0 : w5.cell? ⟨w1.heap.size, 0, none⟩ = some (.int .i64 (lowN X Y)) := keepa hb5 (by simp; omega) (by simp [go_sem, *])
                            have q1 : w5.cell? ⟨w1.heap.size, 1, none⟩ = some (.int .i64 (lowD X Y)) := keepa hb5 (by simp; omega) (by simp [go_sem, *])
                            have q2 : w5.frozen? ⟨w1.heap.size, 0, none⟩ = false := keepz hb5 (by simp; omega) (by simp [go_sem, *])
                            have q3 : w5.frozen? ⟨w1.heap.size, 1, none⟩ = false := keepz hb5 (by simp; omega) (by simp [go_sem, *])
                            obtain ⟨xl, yl, o1, o2, o3, o4, o5⟩ := hRl
                            clear o1 o2
                            have p0 : w5.cell? ⟨w2.heap.size, 0, none⟩ = some (.int .i64 g) := keepa hb5 (by simp; omega) (by simp [go_sem, *])
                            have p1 : w5.cell? ⟨w2.heap.size, 1, none⟩ = some (.int .i64 h) := keepa hb5 (by simp; omega) (by simp [go_sem, *])
                            have p2 : w5.frozen? ⟨w2.heap.size, 0, none⟩ = false := keepz hb5 (by simp; omega) (by simp [go_sem, *])
                            have p3 : w5.frozen? ⟨w2.heap.size, 1, none⟩ = false := keepz hb5 (by simp; omega) (by simp [go_sem, *])
                            obtain ⟨rx, ry, i1, i2, i3, i4, i5⟩ := hR
                            have r1 : w5.cell? ⟨w.heap.size, 0, none⟩ = some rx := keepa hb5 (by simp; omega) (by simp [go_sem, *])
                            have r2 : w5.cell? ⟨w.heap.size, 1, none⟩ = some ry := keepa hb5 (by simp; omega) (by simp [go_sem, *])
                            have r3 : w5.frozen? ⟨w.heap.size, 0, none⟩ = false := keepz hb5 (by simp; omega) (by simp [go_sem, *])
                            have r4 : w5.frozen? ⟨w.heap.size, 1, none⟩ = false := keepz hb5 (by simp; omega) (by simp [go_sem, *])
                            have rz : w.heap.size < w5.heap.size := Nat.lt_of_lt_of_le (by simp; omega) hb5.size
                            have hb6 : Below w.heap.size w w5 := bstep (by (repeat (first | with_reducible exact Below.refl _ _ | with_reducible assumption | with_reducible refine balloc ?_ _ | with_reducible refine bdrew ?_ | with_reducible refine below_drewN ?_ _ | with_reducible refine bset ?_ ?_ _ | with_reducible exact Nat.le_refl _ | with_reducible refine bsize ?_ | (dsimp only; refine Nat.le_trans ?_ (Nat.le_add_right _ _)) | with_reducible refine Nat.le_trans ?_ (Nat.le_add_right _ _) | (with_reducible refine bstep ?_ (by assumption))))) hb5
                            clear hb5 s1 s2 s3 s4 s5 o3 o4 o5 i1 i2 i3 i4 i5 c0g c0h
                            go_wp2
                            go_roundw
                            case rel =>
                              have hv := hvx.out
                              refine ⟨k + 1, by omega, by go_num, hok2, ?_, ?_, ?_, ?_, ⟨.int .i64 (lowN X Y), .int .i64 (lowD X Y), ?_, ?_, ?_, ?_, ?_⟩, ⟨.int .i64 (lowN (g * (F - fr)) (h * (F + nx))), .int .i64 (lowD (g * (F - fr)) (h * (F + nx))), ?_, ?_, ?_, ?_, ?_⟩, ⟨rx, ry, ?_, ?_, ?_, ?_, ?_⟩, ?_⟩
                              · rw [← hv.1.1]; clear hv; simp [go_sem, *]
                              · rw [← hv.1.2]; clear hv; simp [go_sem, *]
                              · rw [← hv.2.1]; clear hv; simp [go_sem, *]
                              · rw [← hv.2.2]; clear hv; simp [go_sem, *]
                              all_goals clear hv
                              all_goals first | ((repeat (first | with_reducible exact Below.refl _ _ | with_reducible assumption | with_reducible refine balloc ?_ _ | with_reducible refine bdrew ?_ | with_reducible refine below_drewN ?_ _ | with_reducible refine bset ?_ ?_ _ | with_reducible exact Nat.le_refl _ | with_reducible refine bsize ?_ | (dsimp only; refine Nat.le_trans ?_ (Nat.le_add_right _ _)) | with_reducible refine Nat.le_trans ?_ (Nat.le_add_right _ _) | (with_reducible refine bstep ?_ (by assumption)))); done) | (simp [go_sem, *]; done) | (simp [go_sem, *]; rfl) | (simp; omega)
                            case measure => simp [intOf]; omega
                  · have hkk : (k : Int) = n := by omega
                    have ee := Lib.hid (hyes.out k hkk hok.out)
                    clear hkk
                    generalize (ftAt l a b F k).x = x at *
                    generalize (ftAt l a b F k).y = y at *
                    obtain ⟨rx, ry, r1, r2, r3, r4, rz⟩ := hR
                    go_wp2
                    refine bodyPost_ret (v := .tuple #[.agg #[.int .i64 x, .int .i64 y], .bool true]) (by simp only [results, Try.results5]; go_simp) rfl ?_
                    refine ⟨by rw [ee.out.1, ee.out.2.1, ee.out.2.2], ?_⟩
                    (repeat (first | with_reducible exact Below.refl _ _ | with_reducible assumption | with_reducible refine balloc ?_ _ | with_reducible refine bdrew ?_ | with_reducible refine below_drewN ?_ _ | with_reducible refine bset ?_ ?_ _ | with_reducible exact Nat.le_refl _ | with_reducible refine bsize ?_ | (dsimp only; refine Nat.le_trans ?_ (Nat.le_add_right _ _)) | with_reducible refine Nat.le_trans ?_ (Nat.le_add_right _ _) | (with_reducible refine bstep ?_ (by assumption))))
end Go.Proofs.Ytbaaaaceejgofaa
