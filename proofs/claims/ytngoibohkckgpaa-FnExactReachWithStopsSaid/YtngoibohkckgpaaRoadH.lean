/- Roads: the gaps, of the program. -/
import Derived.Test.YtngoibohkckgpaaRoadG
import Derived.Deep.RegionHeld3
import Derived.Deep.DeepCutAuto
namespace Go.Proofs.Ytngoibohkckgpaa
open Go.ChangeShapes Go.WideShapes Go.ChangeAt Go.RowKit Go.Joins
set_option maxRecDepth 100000
set_option linter.unusedVariables false
set_option linter.unusedSimpArgs false


theorem liesG_set {α : Type} {m : Nat} {f : α → List Int} {w : World} {a : Addr} {cap : Nat} {l : List α} (h : LiesG m f w a cap l) {p : Addr} (hp : a.block ≠ p.block) (u : Value) : LiesG m f (w.setCell p u) a cap l :=
  ⟨h.hlc, h.hcap, fun i x hx j y hy => by rw [World.cell?_setCell_far w p _ u (by rw [add_block]; exact hp.symm)]; exact h.hcell i x hx j y hy, h.hbd⟩
theorem liesG_grown {α : Type} {m : Nat} {f : α → List Int} {w w' : World} {a : Addr} {cap : Nat} {l : List α} (h : LiesG m f w a cap l) {row : Option Nat} (hg : w.grownBy w' row) (hne : some a.block ≠ row) : LiesG m f w' a cap l :=
  ⟨h.hlc, h.hcap, fun i x hx j y hy => hg.cell (h.hcell i x hx j y hy) (by rw [add_block]; exact hne), h.hbd⟩
theorem add_at (g k : Nat) : (⟨g, 0, none⟩ : Addr).add k = ⟨g, k, none⟩ := by unfold Addr.add; split <;> simp_all
theorem own_form {w : World} {base e size n : Nat} {v : Value} {xs : List Value} (h : w.ownsRow base e size v n xs) (hn : 0 < n) : ∃ g cap, v = .slice (some ⟨g, 0, none⟩) n cap ∧ base ≤ g ∧ g < w.heap.size := by
  have h' := h
  rcases h.2 with ⟨_, h0⟩ | ⟨g, cap, cur, hv, hb, hh, _⟩
  · omega
  · exact ⟨g, cap, hv, hb, (Array.getElem?_eq_some_iff.1 hh).1⟩
set_option maxHeartbeats 6400000 in
theorem gaps_impl (n d : Int) (bn : -9223372036854775808 ≤ n ∧ n ≤ 9223372036854775807) (bd : -9223372036854775808 ≤ d ∧ d ≤ 9223372036854775807) (v : Value) (l : List (Int × Int)) (w : World) (h : RowG 2 fAmt w v l) (hrd : rdB n d l = true) :
    Calls Try.prog 79 #[.agg #[.int .i64 n, .int .i64 d, v]] w (EndL 31 2 fAmt (gapL n d l) w) := by
  obtain ⟨i0, hi, hz0, hz1, hz2⟩ := info_parts infoAmt
  obtain ⟨hw, h16, hlr⟩ := rdB_1 hrd
  have HC := Lib.hid (fun W g p (hB : Below w.heap.size w W) q0 q1 (p0 : W.cell? ⟨p, 0, none⟩ = some (.int .i64 n)) (p1 : W.cell? ⟨p, 1, none⟩ = some (.int .i64 d)) => catA_two g v (.slice (some ⟨p, 0, none⟩) 1 1) l [(n, d)] W q0 q1
    (rowG_below h hB) (Or.inr ⟨_, _, rfl, lies_one p0 p1 bn bd⟩) (by simp; omega))
  obtain ⟨a0, c0, hv0, hl1, hl2⟩ := row_shape h
  subst hv0
  clear h
  have hst := Lib.hid (fun (i : Nat) (p q : Int × Int) hp hq => rd_step hrd (i := i) (p := p) (q := q) hp hq)
  have hQlen : (endL n d l).length = l.length + 1 := by simp [endL]
  have hQbd : ∀ p ∈ endL n d l, ∀ y ∈ fAmt p, -9223372036854775808 ≤ y ∧ y ≤ 9223372036854775807 := by
    intro p hp y hy
    have hpr : rpB p.1 p.2 = true := by
      simp only [endL, List.mem_append, List.mem_singleton] at hp
      rcases hp with hp | rfl
      · exact hlr p hp
      · exact hw
    have ha := am_of _ _ (rp_am hpr)
    have q1 := ha.a
    have q2 := ha.b
    have q3 := ha.c
    have q4 := ha.d
    simp [fAmt] at hy
    omega
  have hpl : plL n d l = (0, 1) :: endL n d l := rfl
  unfold gapL
  change Hid (∀ W g p, Below w.heap.size w W → _ → _ → _ → _ → Calls Try.prog _ _ W (EndL 31 2 fAmt (endL n d l) W)) at HC
  rw [hpl] at hst
  clear hpl hlr hrd
  generalize endL n d l = Q at *
  generalize hGG : gpL Q (0, 1) = G at *
  have hGlen : G.length = l.length + 1 := by rw [← hGG, gpL_len, hQlen]
  have hGt := Lib.hid (fun i x y hx hy => by have := gpL_take Q (0, 1) i x y hx hy; rw [hGG] at this; exact this)
  clear hGG
  go_enter Try.func79, Try.ntmps79
  go_wp2_with fail
  refine (whole_bi 0 _).mono ?_
  rintro e w1 ⟨rfl, hb1⟩
  have A1 := (RdAt.new w n d (.slice a0 l.length c0) 34).later hb1
  have ha1 : Below w.heap.size w w1 := by (repeat (first | with_reducible exact Below.refl _ _ | with_reducible assumption | with_reducible refine balloc ?_ _ | with_reducible refine bdrew ?_ | with_reducible refine below_drewN ?_ _ | with_reducible refine bset ?_ ?_ _ | with_reducible exact Nat.le_refl _ | with_reducible refine bsize ?_ | (dsimp only; refine Nat.le_trans ?_ (Nat.le_add_right _ _)) | with_reducible refine Nat.le_trans ?_ (Nat.le_add_right _ _) | (with_reducible refine bstep ?_ (by assumption))))
  obtain ⟨x0, x1, x2, xz⟩ := A1
  clear hb1
  go_wp2_with fail
  refine (HC.out _ (w1.heap.size + 1 + 1) (w1.heap.size + 1) (by (repeat (first | with_reducible exact Below.refl _ _ | with_reducible assumption | with_reducible refine balloc ?_ _ | with_reducible refine bdrew ?_ | with_reducible refine below_drewN ?_ _ | with_reducible refine bset ?_ ?_ _ | with_reducible exact Nat.le_refl _ | with_reducible refine bsize ?_ | (dsimp only; refine Nat.le_trans ?_ (Nat.le_add_right _ _)) | with_reducible refine Nat.le_trans ?_ (Nat.le_add_right _ _) | (with_reducible refine bstep ?_ (by assumption))))) (by simp [go_sem]) (by simp [go_sem]) (by simp [go_sem]) (by simp [go_sem])).mono ?_
  rintro e w2 ⟨v2, rfl, hown2, hb2⟩
  have ha2 : Below w.heap.size w w2 := by (repeat (first | with_reducible exact Below.refl _ _ | with_reducible assumption | with_reducible refine balloc ?_ _ | with_reducible refine bdrew ?_ | with_reducible refine below_drewN ?_ _ | with_reducible refine bset ?_ ?_ _ | with_reducible exact Nat.le_refl _ | with_reducible refine bsize ?_ | (dsimp only; refine Nat.le_trans ?_ (Nat.le_add_right _ _)) | with_reducible refine Nat.le_trans ?_ (Nat.le_add_right _ _) | (with_reducible refine bstep ?_ (by assumption))))
  have c0 : w2.cell? ⟨w1.heap.size, 0, none⟩ = some (.int .i64 0) := (hb2.cell (p := ⟨w1.heap.size, 0, none⟩) (by first | (simp; done) | (simp; omega))).trans (by simp [go_sem])
  have c1 : w2.cell? ⟨w1.heap.size, 1, none⟩ = some (.int .i64 1) := (hb2.cell (p := ⟨w1.heap.size, 1, none⟩) (by first | (simp; done) | (simp; omega))).trans (by simp [go_sem])
  have c2 : w2.frozen? ⟨w1.heap.size, 0, none⟩ = false := (hb2.frozen (p := ⟨w1.heap.size, 0, none⟩) (by first | (simp; done) | (simp; omega))).trans (by simp [go_sem])
  have c3 : w2.frozen? ⟨w1.heap.size, 1, none⟩ = false := (hb2.frozen (p := ⟨w1.heap.size, 1, none⟩) (by first | (simp; done) | (simp; omega))).trans (by simp [go_sem])
  have hz : w1.heap.size + 1 + 1 < w2.heap.size := Nat.lt_of_lt_of_le (by simp) hb2.size
  obtain ⟨gq, cq, rfl, hgq1, hgq2⟩ := own_form hown2 (by omega)
  have hQ0 := Lib.hid (liesG_own fAmt_len hown2 hQbd)
  have hgq : w1.heap.size ≠ gq := by simp at hgq1; omega
  have hw1w : w.heap.size ≤ w1.heap.size := ha1.size
  clear hown2 hb2 HC x0 x1 x2 xz hgq1
  have ha2s := ha2.size
  have hlc := hQ0.out.hlc
  have hcap := hQ0.out.hcap
  go_wp2
  go_loopw [3, 6, 7, 8, 18] (fun v u6 u7 u8 i wr => ∃ (j : Nat) (b : Int × Int), j ≤ Q.length ∧ i = .int .i64 j ∧ Hid (((0, 1) :: Q)[j]? = some b) ∧ wr.cell? ⟨w1.heap.size, 0, none⟩ = some (.int .i64 b.1) ∧ wr.cell? ⟨w1.heap.size, 1, none⟩ = some (.int .i64 b.2) ∧
      wr.frozen? ⟨w1.heap.size, 0, none⟩ = false ∧ wr.frozen? ⟨w1.heap.size, 1, none⟩ = false ∧ w2.heap.size ≤ wr.heap.size ∧ Hid (LiesG 2 fAmt wr ⟨gq, 0, none⟩ cq Q) ∧ wr.ownsRow w2.heap.size 31 2 v (G.take j).length (cellsG fAmt (G.take j)) ∧ Below w.heap.size w wr) (fun _ _ _ _ i _ => Q.length - (intOf i).toNat)
  case atStart =>
    exact ⟨0, (0, 1), Nat.zero_le _, rfl, Lib.hid rfl, c0, c1, c2, c3, Nat.le_refl _, hQ0, World.ownsRow_nil _ _ _ _, ha2⟩
  case round =>
    clear c0 c1 c2 c3 hQ0 ha2
    obtain ⟨j, b, hj, rfl, hb, c0, c1, c2, c3, hzr, hQ, hown, hbel⟩ := hrel
    obtain ⟨av, cv, rfl⟩ := owns_shape hown
    have hz1 : w1.heap.size < wr.heap.size := by omega
    by_cases hlt : j < Q.length
    · obtain ⟨q, hq⟩ : ∃ q, Q[j]? = some q := ⟨_, List.getElem?_eq_getElem hlt⟩
      have hstq := hst.out j b q hb.out hq
      have hdif := Lib.hid (hGt.out j b q hb.out hq)
      have hbn : Hid (((0, 1) :: Q)[j + 1]? = some q) := Lib.hid (by rw [List.getElem?_cons_succ]; exact hq)
      have e0 : wr.cell? ⟨gq, j * 2, none⟩ = some (.int .i64 q.1) := by
        have h := hQ.out.hcell j q hq 0 q.1 rfl
        rw [add_at] at h
        exact h
      have e1 : wr.cell? ⟨gq, j * 2 + 1, none⟩ = some (.int .i64 q.2) := by
        have h := hQ.out.hcell j q hq 1 q.2 rfl
        rw [add_at] at h
        exact h
      have aq := am_of _ _ hstq.aq
      have ab := am_of _ _ hstq.ap
      have HL := Lib.hid (fun W => minus_pub_impl q.1 q.2 b.1 b.2 (by have := aq.a; have := aq.b; omega) (by have := aq.c; have := aq.d; omega) (by have := ab.a; have := ab.b; omega) (by have := ab.c; have := ab.d; omega) W)
      have hok : okk q.1 q.2 b.1 b.2 = true := by simp [okk, hstq.aq, hstq.ap]
      rw [hok, (two_yes _ _).1, (two_yes _ _).2.1, (two_yes _ _).2.2, st_low hstq] at HL
      have hdx : difP b q = (lowN (q.1 * b.2 - b.1 * q.2) (q.2 * b.2), lowD (q.1 * b.2 - b.1 * q.2) (q.2 * b.2)) := rfl
      rw [hdx] at hdif
      generalize lowN (q.1 * b.2 - b.1 * q.2) (q.2 * b.2) = gx at *
      generalize lowD (q.1 * b.2 - b.1 * q.2) (q.2 * b.2) = gy at *
      have hGj : (G.take j).length ≤ 17 := by rw [List.length_take]; omega
      have hGJ : (G.take (j + 1)).length = (G.take j).length + 1 := by rw [hdif.out]; simp
      generalize hTT : G.take j = TT at *
      generalize hTU : G.take (j + 1) = TU at *
      replace hTU := Lib.hid hTU
      clear hTT hdx hok aq ab hstq hq hb
      obtain ⟨u, y⟩ := q
      obtain ⟨bx, bz⟩ := b
      simp only at e0 e1 c0 c1 HL
      go_wp2_with fail
      refine (HL.out _).mono ?_
      rintro e w3 ⟨rfl, hb3⟩
      have f3 : Below wr.heap.size wr w3 := by (repeat (first | with_reducible exact Below.refl _ _ | with_reducible assumption | with_reducible refine balloc ?_ _ | with_reducible refine bdrew ?_ | with_reducible refine below_drewN ?_ _ | with_reducible refine bset ?_ ?_ _ | with_reducible exact Nat.le_refl _ | with_reducible refine bsize ?_ | (dsimp only; refine Nat.le_trans ?_ (Nat.le_add_right _ _)) | with_reducible refine Nat.le_trans ?_ (Nat.le_add_right _ _) | (with_reducible refine bstep ?_ (by assumption))))
      obtain ⟨d0, d1⟩ := later_two hb3
      have dz : wr.heap.size < w3.heap.size := Nat.lt_of_lt_of_le (by simp) hb3.size
      have k0 := keepa f3 hz1 c0
      have k1 := keepa f3 hz1 c1
      have k2 := keepf f3 hz1 c2
      have k3 := keepf f3 hz1 c3
      have kz := Nat.lt_of_lt_of_le hz1 f3.size
      have hown3 := ownsRow_below (hown.alloc (.cells #[.int .i64 u, .int .i64 y] 31)) hb3
      have hQ3 := Lib.hid (liesG_below hQ.out f3)
      have hbel3 := bstep hbel f3
      have hne1 : ∀ o, some o = (Value.slice av TT.length cv).ownBlock → o ≠ wr.heap.size := fun o ho hoo => by
        have := own_lt hown ho.symm
        omega
      have hne2 : ∀ o, some o = (Value.slice av TT.length cv).ownBlock → w2.heap.size ≤ o := fun o ho => own_block hown ho.symm
      have hz2r : w2.heap.size ≤ w3.heap.size := Nat.le_trans hzr f3.size
      clear c0 c1 c2 c3 hz1 hown hQ hbel hb3 e0 e1 HL
      go_wp2_with (at_builtin; refine wpList_append_own _ rfl _ _ 32 rfl w2.heap.size 31 i0 (.agg #[.int .i64 0, .int .i64 0]) 2 16 Try.underlying32 hi hz0 hz1 hz2 rfl (by decide) _ _ _ rfl ((hown3.alloc _).alloc _) ⟨w3.heap.size + 1, 0, none⟩ 1 1 [.int .i64 gx, .int .i64 gy] ?c0 rfl ?c1 ?c2 ?c3 ?c4 ?c5 ?_)
      case c0 => simp [Act.eval, Act.put]
      case c1 => (intro k u hk; rcases k with _ | _ | k <;> simp at hk <;> subst hk <;> simp [go_sem])
      case c2 => simp [Value.oneCell']
      case c3 => unfold maxLen; omega
      case c4 => omega
      case c5 => simp; omega
      intro v' w4 hown' hgr hnil
      have m0 : w4.cell? ⟨w1.heap.size, 0, none⟩ = some (.int .i64 bx) := hgr.cell (by simp [go_sem, k0, kz]) (fun e => by have h9 : w2.heap.size ≤ w1.heap.size := hne2 _ e; omega)
      have m1 : w4.cell? ⟨w1.heap.size, 1, none⟩ = some (.int .i64 bz) := hgr.cell (by simp [go_sem, k1, kz]) (fun e => by have h9 : w2.heap.size ≤ w1.heap.size := hne2 _ e; omega)
      have m2 : w4.frozen? ⟨w1.heap.size, 0, none⟩ = false := grown_frozen hgr (by simp [go_sem, k2, kz]) (by simp; omega) (fun e => by have h9 : w2.heap.size ≤ w1.heap.size := hne2 _ e; omega)
      have m3 : w4.frozen? ⟨w1.heap.size, 1, none⟩ = false := grown_frozen hgr (by simp [go_sem, k3, kz]) (by simp; omega) (fun e => by have h9 : w2.heap.size ≤ w1.heap.size := hne2 _ e; omega)
      have n0 : w4.cell? ⟨wr.heap.size, 0, none⟩ = some (.int .i64 u) := hgr.cell (by simp [go_sem, d0, dz]) (fun e => hne1 _ e rfl)
      have n1 : w4.cell? ⟨wr.heap.size, 1, none⟩ = some (.int .i64 y) := hgr.cell (by simp [go_sem, d1, dz]) (fun e => hne1 _ e rfl)
      have hz4 : w2.heap.size ≤ w4.heap.size := by have := hgr.size; simp at this; omega
      have hz14 : w1.heap.size < w4.heap.size := by omega
      have hbel4 : Below w.heap.size w w4 := by
        refine (show Below w.heap.size w _ by exact ((balloc (balloc hbel3 _) _))).grown hgr ?_ (fun g e => ?_)
        · have := ha2s; simp; omega
        · have := hne2 _ e.symm; omega
      have hQ4 : LiesG 2 fAmt w4 ⟨gq, 0, none⟩ cq Q := by
        refine liesG_grown (liesG_below hQ3.out ((((Below.refl _ _).alloc (Nat.le_refl _) (.cells #[.int .i64 gx, .int .i64 gy] 31)).alloc (by simp) (.cells #[.int .i64 gx, .int .i64 gy] 31)))) hgr (fun e => ?_)
        have := hne2 _ e
        simp at this
        omega
      have hown4 : w4.ownsRow w2.heap.size 31 2 v' TU.length (cellsG fAmt TU) := by
        rw [hdif.out, cellsG_snoc, List.length_append]; simpa [fAmt] using hown'
      have hvne : v'.ownBlock ≠ some w1.heap.size := fun e => by have := own_block hown4 e; omega
      have hQ5 := Lib.hid hQ4
      clear hown' hgr hown3 hQ3 hQ4 hbel3 hne1 hne2 k0 k1 k2 k3 d0 d1 hnil
      go_wp2
      go_roundw
      case rel =>
        refine ⟨j + 1, (u, y), by omega, by go_num, hbn, by simp [go_sem, m0, m1, hz14], by simp [go_sem, m0, m1, hz14], by simp [go_sem, m2, hz14], by simp [go_sem, m3, hz14], by simp; omega, ?_, ?_, ?_⟩
        · exact Lib.hid (liesG_set (liesG_set hQ5.out (p := ⟨w1.heap.size, 0, none⟩) (by simp; omega) _) (p := ⟨w1.heap.size, 1, none⟩) (by simp; omega) _)
        · rw [hTU.out]
          exact own_set (own_set hown4 hvne _) hvne _
        · exact bset (bset hbel4 (by simp; omega) _) (by simp; omega) _
      case measure => simp [intOf]; omega
    · have hjl : j = Q.length := by omega
      subst hjl
      have hGfull : G.take Q.length = G := List.take_of_length_le (by omega)
      clear c0 c1 c2 c3 hQ hb
      go_wp2
      go_ret
      refine ⟨.slice av (G.take Q.length).length cv, rfl, ?_, hbel⟩
      rw [hGfull] at hown ⊢
      exact own_mono hown (by omega)

end Go.Proofs.Ytngoibohkckgpaa
