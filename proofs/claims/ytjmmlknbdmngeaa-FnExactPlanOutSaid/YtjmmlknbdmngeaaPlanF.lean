/- Plans: PlanOut of the model. -/
import Derived.Test.YtjmmlknbdmngeaaPlanE
import Derived.Test.YtjmmlknbdmngeaaMake
namespace Go.Proofs.Ytjmmlknbdmngeaa
open Go.ChangeShapes Go.WideShapes Go.ChangeAt Go.RowKit Go.Joins
set_option maxRecDepth 100000
set_option linter.unusedVariables false
set_option linter.unusedSimpArgs false


theorem PlanKeep.grownNew {g : Nat} {row : Option Nat} {w W W' : World} (h : PlanKeep g w W) (hg : W.grownBy W' row) (hr : ∀ b, row = some b → w.heap.size ≤ b) (hgw : g < w.heap.size) : PlanKeep g w W' where
  size := Nat.le_trans h.size hg.size
  block b hlt hbg hs := by
    rw [hg.block b (Nat.lt_of_lt_of_le hlt h.size) (fun e => by have := hr b e.symm; omega)]
    exact h.block b hlt hbg hs
  bel B a hB hbl := (h.bel B a hB hbl).grown hg (by have := h.size; omega) (fun k e => by have := hr k e; omega)
theorem PlanAt.later {g : Nat} {W W' : World} {s : PlS} (h : PlanAt g W s) (hb : Below W.heap.size W W') : PlanAt g W' s := by
  obtain ⟨v, hv⟩ := h
  exact ⟨v, hv.later hb⟩
theorem PlanAt.grown {g : Nat} {row : Option Nat} {W W' : World} {s : PlS} (h : PlanAt g W s) (hg : W.grownBy W' row) (hr : ∀ b, row = some b → ¬ StepBlk W b ∧ b ≠ g) : PlanAt g W' s := by
  obtain ⟨v, c0, c1, c2, z0, z1, z2, own, sz⟩ := h
  have hne : some g ≠ row := fun e => (hr g e.symm).2 rfl
  have hb := hg.block g sz hne
  refine ⟨v, (World.cell?_of_block (a := ⟨g, 0, none⟩) hb).trans c0, (World.cell?_of_block (a := ⟨g, 1, none⟩) hb).trans c1, (World.cell?_of_block (a := ⟨g, 2, none⟩) hb).trans c2, (World.frozen?_of_block (a := ⟨g, 0, none⟩) hb).trans z0, (World.frozen?_of_block (a := ⟨g, 1, none⟩) hb).trans z1, (World.frozen?_of_block (a := ⟨g, 2, none⟩) hb).trans z2, ?_, Nat.lt_of_lt_of_le sz hg.size⟩
  have hso := fun b e => step_of_own own (b := b) e
  obtain ⟨h1, h2⟩ := own
  refine ⟨h1, ?_⟩
  rcases h2 with h2 | ⟨g', cap, cur, rfl, h3, h4, h5⟩
  · exact Or.inl h2
  · refine Or.inr ⟨g', cap, cur, rfl, h3, ?_, h5⟩
    rw [hg.block g' (Array.getElem?_eq_some_iff.1 h4).1 (fun e => (hr g' e.symm).1 (hso g' rfl))]
    exact h4
theorem amt_not_step {w : World} {base n b : Nat} {v : Value} {xs : List Value} (h : w.ownsRow base 23 2 v n xs) (hv : v.ownBlock = some b) : ¬ StepBlk w b := by
  rcases h.2 with ⟨rfl, _⟩ | ⟨g, cap, cur, rfl, _, hb, _⟩
  · cases hv
  · simp only [Value.ownBlock, Option.some.injEq] at hv
    subst hv
    rintro ⟨cs, fz, e⟩
    rw [hb] at e
    simp at e

set_option maxHeartbeats 6400000 in
theorem legs_spec (g n : Nat) (hn1 : 1 ≤ n) (hn2 : n ≤ 4) (w : World) (hgw : g < w.heap.size) (hP0 : PlanAt g w (poS n 0)) :
    Calls Try.prog 84 #[.pointer (some ⟨g, 0, none⟩), .int .i64 n, .int .i64 1] w fun e' w' => (∃ v, e' = .returned v) ∧ PlanAt g w' (pFill (poS n (n - 1))) ∧ PlanKeep g w w' := by
  obtain ⟨i0, hi, hz0, hz1, hz2⟩ := info_parts infoAmt
  obtain ⟨hbr, hfl, hls⟩ := po_parts n (by omega) hn1
  have HBR := Lib.hid hbr
  have HF := Lib.hid (fun (s' : PlS) (hs : okFill s' = true) (W : World) (h : PlanAt g W s') => fillAt_spec g s' hs W h)
  have HA := Lib.hid (fun (s' : PlS) (k' p' q' : Int) (hs : okS s' = true) (hp' : amB p' q' = true) (hp0 : p' ≠ 0) (W : World) (h : PlanAt g W s') => addAt_spec g s' k' p' q' hs hp' hp0 W h)
  have HP0 := Lib.hid hP0
  clear hbr hP0
  go_enter Try.func84, Try.ntmps84
  go_wp2
  go_loopw [7, 8] (fun v c wr => ∃ (i k : Nat) (xs : List Value), k + i + 1 = n ∧ c = .int .i64 k ∧ PlanAt g wr (poS n i) ∧ PlanKeep g w wr ∧ wr.ownsRow w.heap.size 23 2 v i xs) (fun _ c _ => (intOf c).toNat)
  case atStart => exact ⟨0, n - 1, [], by omega, by congr 1; omega, HP0.out, PlanKeep.refl g w, ⟨rfl, Or.inl ⟨rfl, rfl⟩⟩⟩
  case round =>
    obtain ⟨i, k, xs, hik, rfl, hP, hkp, own⟩ := hrel
    obtain ⟨av, cv, rfl⟩ := owns_shape own
    have szr : g < wr.heap.size := Nat.lt_of_lt_of_le hgw hkp.size
    have neW : (Value.slice av i cv).ownBlock ≠ some g := fun e => by have := own_block own e; omega
    by_cases hk0 : 0 < k
    · have hbi := HBR.out i (by omega)
      have hnx : poS n (i + 1) = pBring (poS n i) 1 (2 * (k : Int) + 1) (2 * (k : Int) - 1) (2 * (k : Int) + 1) k := by
        show pBring (poS n i) 1 (2 * ((n - 1 - i : Nat) : Int) + 1) (2 * ((n - 1 - i : Nat) : Int) - 1) (2 * ((n - 1 - i : Nat) : Int) + 1) (n - 1 - i) = _
        rw [show n - 1 - i = k by omega]
      rw [show n - 1 - i = k by omega] at hbi
      have HNX := Lib.hid hnx
      obtain ⟨hp, hc, htr, hlf, hlsk⟩ := okBring_parts _ _ _ _ _ _ hbi
      have HTR := Lib.hid htr
      have hmk := fun W : World => make_spec (2 * (k : Int) + 1 - 2) (2 * (k : Int) + 1) (by omega) (by omega) (by omega) (by omega) W
      have hcr := cr_all k (by omega) (by omega)
      injection hcr with hc1 hc2
      rw [hc1, hc2] at hmk
      generalize lowB (2 * (k : Int) + 1 - 2) (2 * (k : Int) + 1) = B0 at *
      have HM := Lib.hid hmk
      clear hbi hnx htr hmk hc1 hc2
      go_wp2_with fail
      refine (HM.out _).mono ?_
      rintro e w1 ⟨rfl, hb1⟩
      have hxa := BoxAt.new wr 1 (2 * (k : Int) + 1)
      have hx1 : BoxAt w1 wr.heap.size 1 (2 * (k : Int) + 1) := hxa.keep ((PlanKeep.refl g _).below hb1 (by simp; omega)) (by omega)
      have hx2 := hx1.alloc (.cells #[.int .i64 (2 * (k : Int) - 1), .int .i64 (2 * (k : Int) + 1)] 23)
      have hy2 := BoxAt.new w1 (2 * (k : Int) - 1) (2 * (k : Int) + 1)
      have bw1 : Below wr.heap.size wr w1 := by (repeat (first | with_reducible exact Below.refl _ _ | with_reducible assumption | with_reducible refine balloc ?_ _ | with_reducible refine bdrew ?_ | with_reducible refine below_drewN ?_ _ | with_reducible refine bset ?_ ?_ _ | with_reducible exact Nat.le_refl _ | with_reducible refine bsize ?_ | (dsimp only; refine Nat.le_trans ?_ (Nat.le_add_right _ _)) | with_reducible refine Nat.le_trans ?_ (Nat.le_add_right _ _) | (with_reducible refine bstep ?_ (by assumption))))
      have own1 := own_alloc (ownsRow_below own bw1) (.cells #[.int .i64 (2 * (k : Int) - 1), .int .i64 (2 * (k : Int) + 1)] 23)
      have hP1 := (hP.later bw1).later (show Below w1.heap.size w1 (w1.alloc (.cells #[.int .i64 (2 * (k : Int) - 1), .int .i64 (2 * (k : Int) + 1)] 23)) by (repeat (first | with_reducible exact Below.refl _ _ | with_reducible assumption | with_reducible refine balloc ?_ _ | with_reducible refine bdrew ?_ | with_reducible refine below_drewN ?_ _ | with_reducible refine bset ?_ ?_ _ | with_reducible exact Nat.le_refl _ | with_reducible refine bsize ?_ | (dsimp only; refine Nat.le_trans ?_ (Nat.le_add_right _ _)) | with_reducible refine Nat.le_trans ?_ (Nat.le_add_right _ _) | (with_reducible refine bstep ?_ (by assumption)))))
      have hsz1 := bw1.size
      have kp1 := (hkp.below bw1 szr).alloc hgw (.cells #[.int .i64 (2 * (k : Int) - 1), .int .i64 (2 * (k : Int) + 1)] 23)
      clear hxa hx1 hP hkp own hb1 bw1
      have c0 : (2 * (k : Int) - 1) ≠ 0 := by omega
      have ngx : wr.heap.size ≠ g := by omega
      have ngy : w1.heap.size ≠ g := by omega
      go_wp2
      go_loopw [12] (fun c W => ∃ j : Nat, j ≤ k ∧ c = .int .i64 j ∧ PlanAt g W (pTrips (poS n i) 1 (2 * (k : Int) + 1) (2 * (k : Int) - 1) (2 * (k : Int) + 1) j) ∧ PlanKeep g w W ∧ BoxAt W wr.heap.size 1 (2 * (k : Int) + 1) ∧ BoxAt W w1.heap.size (2 * (k : Int) - 1) (2 * (k : Int) + 1) ∧ W.ownsRow w.heap.size 23 2 (.slice av i cv) i xs) (fun c _ => k - (intOf c).toNat)
      case atStart => exact ⟨0, Nat.zero_le _, rfl, hP1, kp1, hx2, hy2, own1⟩
      case round =>
        clear hP1 kp1 hx2 hy2 own1
        obtain ⟨j, hj, rfl, hPj, kin, hx, hy, own⟩ := hrel
        have x0 := hx.c0
        have x1 := hx.c1
        have y0 := hy.c0
        have y1 := hy.c1
        by_cases hlt : j < k
        · have ht := HTR.out j hlt
          obtain ⟨o1, o2, o3, o4⟩ := okTrip_parts _ _ _ _ _ ht
          have hTT := Lib.hid (show pTrips (poS n i) 1 (2 * (k : Int) + 1) (2 * (k : Int) - 1) (2 * (k : Int) + 1) (j + 1) = pTrip (pTrips (poS n i) 1 (2 * (k : Int) + 1) (2 * (k : Int) - 1) (2 * (k : Int) + 1) j) 1 (2 * (k : Int) + 1) (2 * (k : Int) - 1) (2 * (k : Int) + 1) from rfl)
          generalize pTrips (poS n i) 1 (2 * (k : Int) + 1) (2 * (k : Int) - 1) (2 * (k : Int) + 1) j = sj at *
          clear ht
          go_wp2_with fail
          refine (HF.out sj o1 _ hPj).mono ?_
          rintro e' W1a ⟨rfl, hP1a, hk1a⟩
          replace hx := hx.keep hk1a (by omega)
          replace hy := hy.keep hk1a (by omega)
          replace own := own_keep own hk1a neW
          replace kin := kin.trans hk1a
          clear hk1a x0 x1 y0 y1
          have x0 := hx.c0
          have x1 := hx.c1
          have y0 := hy.c0
          have y1 := hy.c1
          go_wp2_with fail
          refine (HA.out _ 0 1 (2 * (k : Int) + 1) o2 hp (by omega) _ hP1a).mono ?_
          rintro e' W2a ⟨rfl, hP2a, hk2a⟩
          replace hx := hx.keep hk2a (by omega)
          replace hy := hy.keep hk2a (by omega)
          replace own := own_keep own hk2a neW
          replace kin := kin.trans hk2a
          clear hk2a x0 x1 y0 y1
          have x0 := hx.c0
          have x1 := hx.c1
          have y0 := hy.c0
          have y1 := hy.c1
          go_wp2_with fail
          refine (HA.out _ 2 (2 * (k : Int) - 1) (2 * (k : Int) + 1) o3 hc c0 _ hP2a).mono ?_
          rintro e' W3a ⟨rfl, hP3a, hk3a⟩
          replace hx := hx.keep hk3a (by omega)
          replace hy := hy.keep hk3a (by omega)
          replace own := own_keep own hk3a neW
          replace kin := kin.trans hk3a
          clear hk3a x0 x1 y0 y1
          have x0 := hx.c0
          have x1 := hx.c1
          have y0 := hy.c0
          have y1 := hy.c1
          go_wp2_with fail
          refine (HA.out _ 1 1 (2 * (k : Int) + 1) o4 hp (by omega) _ hP3a).mono ?_
          rintro e' W4a ⟨rfl, hP4a, hk4a⟩
          replace hx := hx.keep hk4a (by omega)
          replace hy := hy.keep hk4a (by omega)
          replace own := own_keep own hk4a neW
          replace kin := kin.trans hk4a
          clear hk4a x0 x1 y0 y1
          have x0 := hx.c0
          have x1 := hx.c1
          have y0 := hy.c0
          have y1 := hy.c1
          go_wp2
          go_roundw
          case rel => exact ⟨j + 1, by omega, by go_num, by rw [hTT.out]; exact hP4a, kin, hx, hy, own⟩
          case measure => first | (simp [intOf]; done) | (simp [intOf]; omega)
        · obtain rfl : j = k := by omega
          go_wp2_with fail
          refine (HF.out _ hlf _ hPj).mono ?_
          rintro e' W1a ⟨rfl, hP1a, hk1a⟩
          replace hx := hx.keep hk1a (by omega)
          replace hy := hy.keep hk1a (by omega)
          replace own := own_keep own hk1a neW
          replace kin := kin.trans hk1a
          clear hk1a x0 x1 y0 y1
          have x0 := hx.c0
          have x1 := hx.c1
          have y0 := hy.c0
          have y1 := hy.c1
          go_wp2_with fail
          refine (HA.out _ 0 1 (2 * (j : Int) + 1) hlsk hp (by omega) _ hP1a).mono ?_
          rintro e' W2a ⟨rfl, hP2a, hk2a⟩
          replace hx := hx.keep hk2a (by omega)
          replace hy := hy.keep hk2a (by omega)
          replace own := own_keep own hk2a neW
          replace kin := kin.trans hk2a
          clear hk2a x0 x1 y0 y1
          have x0 := hx.c0
          have x1 := hx.c1
          have y0 := hy.c0
          have y1 := hy.c1
          have szi : w.heap.size ≤ W2a.heap.size := kin.size
          go_wp2_with (at_builtin; refine wpList_append_own _ rfl _ _ 99 rfl w.heap.size 23 i0 (.agg #[.int .i64 0, .int .i64 0]) 2 16 Try.underlying99 hi hz0 hz1 hz2 rfl (by decide) _ _ _ rfl (own.alloc _) ⟨W2a.heap.size, 0, none⟩ 1 1 [.int .i64 1, .int .i64 (2 * (j : Int) + 1)] rfl rfl ?c1 ?c2 ?c3 ?c4 ?c5 ?_)
          case c1 => exact cell_two_new _ _ _ _
          case c2 => simp [Value.oneCell']
          case c3 => unfold maxLen; omega
          case c4 => omega
          case c5 => first | (simp; done) | (simp; omega)
          intro v' w4 hown' hgrow _
          have own4 := hown'
          have nst := fun b e => amt_not_step (own.alloc (.cells #[.int .i64 1, .int .i64 (2 * (j : Int) + 1)] 23)) (b := b) e
          have hP4 : PlanAt g w4 (pBring (poS n i) 1 (2 * (j : Int) + 1) (2 * (j : Int) - 1) (2 * (j : Int) + 1) j) := PlanAt.grown (hP2a.later (by (repeat (first | with_reducible exact Below.refl _ _ | with_reducible assumption | with_reducible refine balloc ?_ _ | with_reducible refine bdrew ?_ | with_reducible refine below_drewN ?_ _ | with_reducible refine bset ?_ ?_ _ | with_reducible exact Nat.le_refl _ | with_reducible refine bsize ?_ | (dsimp only; refine Nat.le_trans ?_ (Nat.le_add_right _ _)) | with_reducible refine Nat.le_trans ?_ (Nat.le_add_right _ _) | (with_reducible refine bstep ?_ (by assumption)))))) hgrow (fun b e => ⟨nst b e, fun e2 => neW (by rw [e, e2])⟩)
          have kp4 := (kin.alloc hgw _).grownNew hgrow (fun b e => own_block own e) hgw
          clear hown' hgrow own kin hP2a nst
          go_wp2
          go_roundw
          case rel => exact ⟨i + 1, j - 1, _, by omega, by congr 1; omega, by rw [HNX.out]; exact hP4, kp4, own4⟩
          case measure => first | (simp [intOf]; done) | (simp [intOf]; omega)
    · obtain rfl : k = 0 := by omega
      obtain rfl : i = n - 1 := by omega
      clear HBR
      go_wp2_with fail
      refine (HF.out _ hfl _ hP).mono ?_
      rintro e' w2 ⟨rfl, hP2, hk2⟩
      go_wp2
      go_ret
      exact ⟨⟨_, rfl⟩, hP2, hkp.trans hk2⟩

end Go.Proofs.Ytjmmlknbdmngeaa
