/- FuelInAll, of the model; both sides at every state. -/
import Derived.Test.YtkpeiibncbcdhaaFuelAll
namespace Go.Proofs.Ytkpeiibncbcdhaa
open Go.ChangeShapes Go.WideShapes Go.ChangeAt Go.RowKit Go.Joins
set_option maxRecDepth 100000
set_option linter.unusedVariables false
set_option linter.unusedSimpArgs false

theorem allL_ne (l : List DepotV) (c d : Int) : allL l c d ≠ [] := by simp [allL]
theorem liesG_set {α : Type} {m : Nat} {f : α → List Int} {w : World} {a : Addr} {cap : Nat} {l : List α} (h : LiesG m f w a cap l) {p : Addr} (hne : a.block ≠ p.block) (u : Value) : LiesG m f (w.setCell p u) a cap l := by
  refine ⟨h.hlc, h.hcap, fun i q hq j y hy => ?_, h.hbd⟩
  rw [← h.hcell i q hq j y hy]
  unfold World.cell?
  rw [Below.heap_setCell w p u _ (by rw [add_block]; exact hne)]
theorem liesG_alloc {α : Type} {m : Nat} {f : α → List Int} {w : World} {a : Addr} {cap : Nat} {l : List α} (h : LiesG m f w a cap l) (o : Obj) : LiesG m f (w.alloc o) a cap l := liesG_below h (balloc (Below.refl _ _) o)
theorem drop_consG {α : Type} (l : List α) (k : Nat) (p : α) (hp : l[k]? = some p) : l.drop k = p :: l.drop (k + 1) := by
  have hlt : k < l.length := (List.getElem?_eq_some_iff.1 hp).1
  rw [List.drop_eq_getElem_cons hlt]
  rw [List.getElem?_eq_getElem hlt] at hp
  injection hp with hp
  rw [hp]
set_option maxHeartbeats 3200000 in
theorem fuelAll_spec_yes (a b c d e f : Int) (ad : Addr) (cap : Nat) (l : List DepotV) (w : World) (hL : LiesG 4 fDepot w ad cap l) (hs : stateB a b c d e f l = true) :
    Calls Try.prog 42 #[.agg #[.int .i64 a, .int .i64 b, .int .i64 c, .int .i64 d, .int .i64 e, .int .i64 f, .slice (some ad) l.length cap]] w fun en w' => en = .returned (.tuple #[.agg #[.int .i64 (oN (sumL (allL l c d) e f)), .int .i64 (oD (sumL (allL l c d) e f))], .bool (oB (sumL (allL l c d) e f))]) ∧ Below w.heap.size w w' := by
  have hlc := hL.hlc
  have hcap := hL.hcap
  have h20 := state_len hs
  have hgood := allL_good hs
  have hsup := state_sup hs
  obtain ⟨i0, hi, hz0, hz1, hz2⟩ := info_parts infoAmt
  have hcon := fun W (hb : Below w.heap.size w W) => tpGood_spec a b c d e f ad cap l W (liesG_below hL hb)
  rw [hs] at hcon
  have HC := Lib.hid hcon
  have HG := Lib.hid hgood
  have HU := Lib.hid hsup
  clear hcon hs hgood hsup
  go_enter Try.func42, Try.ntmps42
  (go_wp2_with fail; refine (HC.out _ (by (repeat (first | with_reducible exact Below.refl _ _ | with_reducible assumption | with_reducible refine balloc ?_ _ | with_reducible refine bdrew ?_ | with_reducible refine bset ?_ ?_ _ | with_reducible exact Nat.le_refl _ | with_reducible refine bsize ?_ | (dsimp only; refine Nat.le_trans ?_ (Nat.le_add_right _ _)) | with_reducible refine Nat.le_trans ?_ (Nat.le_add_right _ _) | (with_reducible refine bstep ?_ (by assumption)))))).mono ?_; rintro e w1 ⟨rfl, hb1⟩; (have ha1 : Below w.heap.size w w1 := by (repeat (first | with_reducible exact Below.refl _ _ | with_reducible assumption | with_reducible refine balloc ?_ _ | with_reducible refine bdrew ?_ | with_reducible refine bset ?_ ?_ _ | with_reducible exact Nat.le_refl _ | with_reducible refine bsize ?_ | (dsimp only; refine Nat.le_trans ?_ (Nat.le_add_right _ _)) | with_reducible refine Nat.le_trans ?_ (Nat.le_add_right _ _) | (with_reducible refine bstep ?_ (by assumption))))); obtain ⟨kc1, kf1, kz1, ky1, kx1, kv1, ku1⟩ := bcell hb1)
  have q1_h_0 : w1.cell? ⟨w.heap.size, 0, none⟩ = some (.int .i64 a) := by rw [kc1 _ _ (by first | assumption | (simp; done) | (simp; omega) | omega)]; simp [go_sem]
  have r1_h_0 : w1.frozen? ⟨w.heap.size, 0, none⟩ = false := by rw [kf1 _ _ (by first | assumption | (simp; done) | (simp; omega) | omega)]; simp [go_sem]
  have q1_h_1 : w1.cell? ⟨w.heap.size, 1, none⟩ = some (.int .i64 b) := by rw [kc1 _ _ (by first | assumption | (simp; done) | (simp; omega) | omega)]; simp [go_sem]
  have r1_h_1 : w1.frozen? ⟨w.heap.size, 1, none⟩ = false := by rw [kf1 _ _ (by first | assumption | (simp; done) | (simp; omega) | omega)]; simp [go_sem]
  have q1_h_2 : w1.cell? ⟨w.heap.size, 2, none⟩ = some (.int .i64 c) := by rw [kc1 _ _ (by first | assumption | (simp; done) | (simp; omega) | omega)]; simp [go_sem]
  have r1_h_2 : w1.frozen? ⟨w.heap.size, 2, none⟩ = false := by rw [kf1 _ _ (by first | assumption | (simp; done) | (simp; omega) | omega)]; simp [go_sem]
  have q1_h_3 : w1.cell? ⟨w.heap.size, 3, none⟩ = some (.int .i64 d) := by rw [kc1 _ _ (by first | assumption | (simp; done) | (simp; omega) | omega)]; simp [go_sem]
  have r1_h_3 : w1.frozen? ⟨w.heap.size, 3, none⟩ = false := by rw [kf1 _ _ (by first | assumption | (simp; done) | (simp; omega) | omega)]; simp [go_sem]
  have q1_h_4 : w1.cell? ⟨w.heap.size, 4, none⟩ = some (.int .i64 e) := by rw [kc1 _ _ (by first | assumption | (simp; done) | (simp; omega) | omega)]; simp [go_sem]
  have r1_h_4 : w1.frozen? ⟨w.heap.size, 4, none⟩ = false := by rw [kf1 _ _ (by first | assumption | (simp; done) | (simp; omega) | omega)]; simp [go_sem]
  have q1_h_5 : w1.cell? ⟨w.heap.size, 5, none⟩ = some (.int .i64 f) := by rw [kc1 _ _ (by first | assumption | (simp; done) | (simp; omega) | omega)]; simp [go_sem]
  have r1_h_5 : w1.frozen? ⟨w.heap.size, 5, none⟩ = false := by rw [kf1 _ _ (by first | assumption | (simp; done) | (simp; omega) | omega)]; simp [go_sem]
  have q1_h_6 : w1.cell? ⟨w.heap.size, 6, none⟩ = some (.slice (some ad) l.length cap) := by rw [kc1 _ _ (by first | assumption | (simp; done) | (simp; omega) | omega)]; simp [go_sem]
  have r1_h_6 : w1.frozen? ⟨w.heap.size, 6, none⟩ = false := by rw [kf1 _ _ (by first | assumption | (simp; done) | (simp; omega) | omega)]; simp [go_sem]
  have z1_h : w.heap.size < w1.heap.size := kz1 _ (by first | assumption | (simp; done) | (simp; omega) | omega)
  have q1_h_1_0 : w1.cell? ⟨w.heap.size + 1, 0, none⟩ = some (.int .i64 0) := by rw [kc1 _ _ (by first | assumption | (simp; done) | (simp; omega) | omega)]; simp [go_sem]
  have r1_h_1_0 : w1.frozen? ⟨w.heap.size + 1, 0, none⟩ = false := by rw [kf1 _ _ (by first | assumption | (simp; done) | (simp; omega) | omega)]; simp [go_sem]
  have q1_h_1_1 : w1.cell? ⟨w.heap.size + 1, 1, none⟩ = some (.int .i64 0) := by rw [kc1 _ _ (by first | assumption | (simp; done) | (simp; omega) | omega)]; simp [go_sem]
  have r1_h_1_1 : w1.frozen? ⟨w.heap.size + 1, 1, none⟩ = false := by rw [kf1 _ _ (by first | assumption | (simp; done) | (simp; omega) | omega)]; simp [go_sem]
  have z1_h_1 : w.heap.size + 1 < w1.heap.size := kz1 _ (by first | assumption | (simp; done) | (simp; omega) | omega)
  clear kc1 kf1 kz1 ky1 kx1 kv1 ku1 hb1
  have hown1 := World.ownsRow_lit (base := w1.heap.size + 1) (size := 2) (e := 27) (w1.alloc (.cells #[.int .i64 e, .int .i64 f] 27)) #[] 0 (by simp) (by unfold maxLen; omega) rfl
  have HO := Lib.hid hown1
  clear hown1
  have HW1 := Lib.hid (show Below w1.heap.size w1 w1 from Below.refl _ _)
  go_wp2
  go_loopw [5, 22] (fun v i wr => ∃ k : Nat, k ≤ l.length ∧ i = .int .i64 k ∧ wr.ownsRow (w1.heap.size + 1) 27 2 v ((fuelsL (l.take k)).length) (cellsG fAmt (fuelsL (l.take k))) ∧ wr.cell? ⟨w1.heap.size, 0, none⟩ = some (.int .i64 e) ∧ wr.cell? ⟨w1.heap.size, 1, none⟩ = some (.int .i64 f) ∧
      wr.frozen? ⟨w1.heap.size, 0, none⟩ = false ∧ wr.frozen? ⟨w1.heap.size, 1, none⟩ = false ∧ w1.heap.size + 1 ≤ wr.heap.size ∧ Below w1.heap.size w1 wr) (fun _ i _ => l.length - (intOf i).toNat)
  case atStart => exact ⟨0, Nat.zero_le _, rfl, by simpa [fuelsL, cellsG] using HO.out, by simp [go_sem], by simp [go_sem], by simp [go_sem], by simp [go_sem], by simp, by (repeat (first | with_reducible exact Below.refl _ _ | with_reducible assumption | with_reducible refine balloc ?_ _ | with_reducible refine bdrew ?_ | with_reducible refine bset ?_ ?_ _ | with_reducible exact Nat.le_refl _ | with_reducible refine bsize ?_ | (dsimp only; refine Nat.le_trans ?_ (Nat.le_add_right _ _)) | with_reducible refine Nat.le_trans ?_ (Nat.le_add_right _ _) | (with_reducible refine bstep ?_ (by assumption))))⟩
  case round =>
    obtain ⟨k, hk, rfl, hown, s1, s2, s3, s4, hs, hbel⟩ := hrel
    have hwl : (fuelsL (l.take k)).length = k := by rw [fuelsL_len, List.length_take]; omega
    have hwl3 : (fuelsL (l.take k)).length ≤ 121 := by omega
    clear hwl
    by_cases hlt : k < l.length
    · obtain ⟨p, hp⟩ : ∃ p, l[k]? = some p := ⟨_, List.getElem?_eq_getElem hlt⟩
      have hc := (liesG_below hL (bstep ha1 hbel)).hcell k p hp
      have htk := take_snoc l k p hp
      obtain ⟨pa, pb, pn, pd⟩ := p
      have e0 := hc 0 pa rfl
      rw [Nat.add_zero] at e0
      have e1 : wr.cell? ⟨(ad.add (k * 4)).block, (ad.add (k * 4)).off + 1, none⟩ = some (.int .i64 pb) := by
        have h := hc 1 pb rfl
        rw [← Deep.add_add] at h
        exact h
      have e2 : wr.cell? ⟨(ad.add (k * 4)).block, (ad.add (k * 4)).off + 2, none⟩ = some (.int .i64 pn) := by
        have h := hc 2 pn rfl
        rw [← Deep.add_add] at h
        exact h
      have e3 : wr.cell? ⟨(ad.add (k * 4)).block, (ad.add (k * 4)).off + 3, none⟩ = some (.int .i64 pd) := by
        have h := hc 3 pd rfl
        rw [← Deep.add_add] at h
        exact h
      clear hc
      have hnew := fuelsL_snoc (l.take k) ⟨pa, pb, pn, pd⟩
      rw [← htk] at hnew
      have HN := Lib.hid hnew
      clear hnew htk hp
      go_wp2_with (at_builtin; refine wpList_append_own _ rfl _ _ 96 rfl (w1.heap.size + 1) 27 i0 (.agg #[.int .i64 0, .int .i64 0]) 2 16 Try.underlying96 hi hz0 hz1 hz2 rfl (by decide) _ _ _ rfl ((hown.alloc _).alloc _) ⟨wr.heap.size + 1, 0, none⟩ 1 1 [.int .i64 pn, .int .i64 pd] rfl rfl ?c1a ?c2a ?c3a ?c4a ?c5a ?_)
      try (case c1a => exact cell_two_new _ _ _ _)
      case c2a => simp [Value.oneCell']
      case c3a => unfold maxLen; omega
      case c4a => omega
      case c5a => have := hbel.size; simp; omega
      intro v' w2 hown' hgrow _
      have hown2 : w2.ownsRow (w1.heap.size + 1) 27 2 v' ((fuelsL (l.take (k + 1))).length) (cellsG fAmt (fuelsL (l.take (k + 1)))) := by
        rw [HN.out, cellsG_snoc]; simpa [fAmt] using hown'
      have hbelX : Below (w1.heap.size + 1) wr w2 := by
        refine (((Below.refl _ wr).alloc hs _).alloc (by simp; omega) _).grown hgrow ?_ (fun g e => own_block hown e)
        simp; omega
      have hbel2 : Below w1.heap.size w1 w2 := hbel.trans (hbelX.mono (by omega))
      have t1 : w2.cell? ⟨w1.heap.size, 0, none⟩ = some (.int .i64 e) := (hbelX.cell (p := ⟨w1.heap.size, 0, none⟩) (by simp)).trans s1
      have t2 : w2.cell? ⟨w1.heap.size, 1, none⟩ = some (.int .i64 f) := (hbelX.cell (p := ⟨w1.heap.size, 1, none⟩) (by simp)).trans s2
      have t3 : w2.frozen? ⟨w1.heap.size, 0, none⟩ = false := (hbelX.frozen (p := ⟨w1.heap.size, 0, none⟩) (by simp)).trans s3
      have t4 : w2.frozen? ⟨w1.heap.size, 1, none⟩ = false := (hbelX.frozen (p := ⟨w1.heap.size, 1, none⟩) (by simp)).trans s4
      have t5 : w1.heap.size + 1 ≤ w2.heap.size := Nat.le_trans hs hbelX.size
      clear hown' hgrow hown hbel hbelX s1 s2 s3 s4 hs
      go_wp2
      go_roundw
      case rel => exact ⟨k + 1, by omega, by go_num, hown2, t1, t2, t3, t4, t5, hbel2⟩
      case measure => simp [intOf]; omega
    · have hkn : k = l.length := by omega
      subst hkn
      rw [List.take_length] at hown hwl3
      have c2 := keepa hbel z1_h q1_h_2
      have c3 := keepa hbel z1_h q1_h_3
      have u0 : w.heap.size < wr.heap.size := Nat.lt_of_lt_of_le z1_h hbel.size
      have p10 := Lib.hid q1_h_1_0
      have p11 := Lib.hid q1_h_1_1
      have p12 := Lib.hid r1_h_1_0
      have p13 := Lib.hid r1_h_1_1
      have HZ := Lib.hid z1_h_1
      clear q1_h_0 q1_h_1 q1_h_2 q1_h_3 q1_h_4 q1_h_5 q1_h_6 r1_h_0 r1_h_1 r1_h_2 r1_h_3 r1_h_4 r1_h_5 r1_h_6 z1_h q1_h_1_0 q1_h_1_1 r1_h_1_0 r1_h_1_1 z1_h_1
      go_wp2_with (at_builtin; refine wpList_append_own _ rfl _ _ 96 rfl (w1.heap.size + 1) 27 i0 (.agg #[.int .i64 0, .int .i64 0]) 2 16 Try.underlying96 hi hz0 hz1 hz2 rfl (by decide) _ _ _ rfl (hown.alloc _) ⟨wr.heap.size, 0, none⟩ 1 1 [.int .i64 c, .int .i64 d] rfl rfl ?c1b ?c2b ?c3b ?c4b ?c5b ?_)
      try (case c1b => exact cell_two_new _ _ _ _)
      case c2b => simp [Value.oneCell']
      case c3b => unfold maxLen; omega
      case c4b => omega
      case c5b => simp; omega
      intro v' w2 hown' hgrow _
      have hown2 : w2.ownsRow (w1.heap.size + 1) 27 2 v' ((allL l c d).length) (cellsG fAmt (allL l c d)) := by
        unfold allL; rw [cellsG_snoc]; simpa [fAmt] using hown'
      have hbelX : Below (w1.heap.size + 1) wr w2 := by
        refine ((Below.refl _ wr).alloc hs _).grown hgrow ?_ (fun g e => own_block hown e)
        simp; omega
      have hbelA : Below w1.heap.size w1 w2 := hbel.trans (hbelX.mono (by omega))
      have hrow := rowG_own fAmt_len hown2 (by intro p hp; exact am_b64 (HG.out p hp))
      have t1 : w2.cell? ⟨w1.heap.size, 0, none⟩ = some (.int .i64 e) := (hbelX.cell (p := ⟨w1.heap.size, 0, none⟩) (by simp)).trans s1
      have t2 : w2.cell? ⟨w1.heap.size, 1, none⟩ = some (.int .i64 f) := (hbelX.cell (p := ⟨w1.heap.size, 1, none⟩) (by simp)).trans s2
      have t3 : w2.frozen? ⟨w1.heap.size, 0, none⟩ = false := (hbelX.frozen (p := ⟨w1.heap.size, 0, none⟩) (by simp)).trans s3
      have t4 : w2.frozen? ⟨w1.heap.size, 1, none⟩ = false := (hbelX.frozen (p := ⟨w1.heap.size, 1, none⟩) (by simp)).trans s4
      have t5 : w1.heap.size + 1 ≤ w2.heap.size := Nat.le_trans hs hbelX.size
      have d0 : w2.cell? ⟨w.heap.size + 1, 0, none⟩ = some (.int .i64 0) := keepa hbelA HZ.out p10.out
      have d1 : w2.cell? ⟨w.heap.size + 1, 1, none⟩ = some (.int .i64 0) := keepa hbelA HZ.out p11.out
      have k0 : w2.frozen? ⟨w.heap.size + 1, 0, none⟩ = false := (hbelA.frozen (p := ⟨w.heap.size + 1, 0, none⟩) HZ.out).trans p12.out
      have k1 : w2.frozen? ⟨w.heap.size + 1, 1, none⟩ = false := (hbelA.frozen (p := ⟨w.heap.size + 1, 1, none⟩) HZ.out).trans p13.out
      have z0 : w.heap.size + 1 < w1.heap.size := HZ.out
      have ha3 : Below w.heap.size w w2 := bstep ha1 hbelA
      clear hown' hgrow hown hbel hbelA hbelX c2 c3 s1 s2 s3 s4 hs u0
      rcases hrow with ⟨rfl, hnil⟩ | ⟨ra, rcap, rfl, hLr⟩
      · exact absurd hnil (allL_ne l c d)
      have hrb : w1.heap.size < ra.block := own_block hown2 rfl
      clear hown2
      have hrlc := hLr.hlc
      have hrcap := hLr.hcap
      go_wp2
      go_loopw [38] (fun i wr => ∃ k : Nat, k ≤ (allL l c d).length ∧ i = .int .i64 k ∧ ∃ x y : Int, Hid (amB x y = true) ∧ Hid (sumL ((allL l c d).drop k) x y = sumL (allL l c d) e f) ∧ wr.cell? ⟨w1.heap.size, 0, none⟩ = some (.int .i64 x) ∧ wr.cell? ⟨w1.heap.size, 1, none⟩ = some (.int .i64 y) ∧
          wr.frozen? ⟨w1.heap.size, 0, none⟩ = false ∧ wr.frozen? ⟨w1.heap.size, 1, none⟩ = false ∧ wr.cell? ⟨w.heap.size + 1, 0, none⟩ = some (.int .i64 0) ∧ wr.cell? ⟨w.heap.size + 1, 1, none⟩ = some (.int .i64 0) ∧
          wr.frozen? ⟨w.heap.size + 1, 0, none⟩ = false ∧ wr.frozen? ⟨w.heap.size + 1, 1, none⟩ = false ∧ w1.heap.size < wr.heap.size ∧ Below w.heap.size w wr ∧ Hid (LiesG 2 fAmt wr ra rcap (allL l c d))) (fun i _ => (allL l c d).length - (intOf i).toNat)
      case atStart =>
        exact ⟨0, Nat.zero_le _, rfl, e, f, HU, rfl, t1, t2, t3, t4, d0, d1, k0, k1, by omega, ha3, Lib.hid hLr⟩
      case round =>
        obtain ⟨k, hk, rfl, x, y, hxy, hfold, s1, s2, s3, s4, r1, r2, r3, r4, hs, hbel, hLw⟩ := hrel
        clear t1 t2 t3 t4 d0 d1 k0 k1
        have z1 : w.heap.size + 1 < wr.heap.size := by omega
        have nb : w.heap.size + 1 ≠ w1.heap.size := by omega
        have lb : w.heap.size ≤ w1.heap.size := by omega
        by_cases hlt : k < (allL l c d).length
        · obtain ⟨p, hp⟩ : ∃ p, (allL l c d)[k]? = some p := ⟨_, List.getElem?_eq_getElem hlt⟩
          have hc := hLw.out.hcell k p hp
          have hpm := HG.out p (List.mem_of_getElem? hp)
          have hdrop := drop_consG _ k p hp
          obtain ⟨pn, pd⟩ := p
          have e0 := hc 0 pn rfl
          rw [Nat.add_zero] at e0
          have e1 : wr.cell? ⟨(ra.add (k * 2)).block, (ra.add (k * 2)).off + 1, none⟩ = some (.int .i64 pd) := by
            have h := hc 1 pd rfl
            rw [← Deep.add_add] at h
            exact h
          have hxa := am_of x y hxy.out
          have hpa := am_of pn pd hpm
          have hra : ra.block < wr.heap.size := by have := cell_lt e0; rw [add_block] at this; exact this
          clear hc hp
          have hstep : Hid ((if lowB (x * pd + pn * y) (y * pd) = true then sumL ((allL l c d).drop (k + 1)) (lowN (x * pd + pn * y) (y * pd)) (lowD (x * pd + pn * y) (y * pd)) else none) = sumL (allL l c d) e f) := by
            have := hfold.out
            rw [hdrop, sumL_cons, hpm, Bool.true_and] at this
            exact this
          have hcon := fun W => amAdd_spec x y pn pd hxa hpa W
          clear hdrop hxa hpa hpm hfold
          cases hB : lowB (x * pd + pn * y) (y * pd)
          · have hnone : Hid (sumL (allL l c d) e f = none) := by
              have h := hstep.out
              rw [hB] at h
              have h2 : sumL (allL l c d) e f = none := by simpa using h.symm
              exact h2
            have HC := Lib.hid hcon
            clear hcon hstep
            go_wp2_with fail
            refine (HC.out _).mono ?_
            rintro en w3 ⟨rfl, hb3⟩
            rw [hB]
            obtain ⟨kc3, kf3, kz3, ky3, kx3, kv3, ku3⟩ := bcell hb3
            have ha4 : Below w.heap.size w w3 := by (repeat (first | with_reducible exact Below.refl _ _ | with_reducible assumption | with_reducible refine balloc ?_ _ | with_reducible refine bdrew ?_ | with_reducible refine bset ?_ ?_ _ | with_reducible exact Nat.le_refl _ | with_reducible refine bsize ?_ | (dsimp only; refine Nat.le_trans ?_ (Nat.le_add_right _ _)) | with_reducible refine Nat.le_trans ?_ (Nat.le_add_right _ _) | (with_reducible refine bstep ?_ (by assumption))))
            have q3_h_1_0 : w3.cell? ⟨w.heap.size + 1, 0, none⟩ = some (.int .i64 0) := by rw [kc3 _ _ (by first | assumption | (simp; done) | (simp; omega) | omega)]; simp [go_sem, s1, s2, s3, s4, r1, r2, r3, r4, z1, hs]
            have r3_h_1_0 : w3.frozen? ⟨w.heap.size + 1, 0, none⟩ = false := by rw [kf3 _ _ (by first | assumption | (simp; done) | (simp; omega) | omega)]; simp [go_sem, s1, s2, s3, s4, r1, r2, r3, r4, z1, hs]
            have q3_h_1_1 : w3.cell? ⟨w.heap.size + 1, 1, none⟩ = some (.int .i64 0) := by rw [kc3 _ _ (by first | assumption | (simp; done) | (simp; omega) | omega)]; simp [go_sem, s1, s2, s3, s4, r1, r2, r3, r4, z1, hs]
            have r3_h_1_1 : w3.frozen? ⟨w.heap.size + 1, 1, none⟩ = false := by rw [kf3 _ _ (by first | assumption | (simp; done) | (simp; omega) | omega)]; simp [go_sem, s1, s2, s3, s4, r1, r2, r3, r4, z1, hs]
            have z3_h_1 : w.heap.size + 1 < w3.heap.size := kz3 _ (by first | assumption | (simp; done) | (simp; omega) | omega)
            clear kc3 kf3 kz3 ky3 kx3 kv3 ku3 hb3 s1 s2 s3 s4 r1 r2 r3 r4 z1 hs
            go_wp2
            rw [hnone.out]
            refine bodyPost_ret (v := .tuple #[.agg #[.int .i64 0, .int .i64 0], .bool false]) (by simp only [results, Try.results42]; go_simp) rfl ⟨rfl, ?_⟩
            (repeat (first | with_reducible exact Below.refl _ _ | with_reducible assumption | with_reducible refine balloc ?_ _ | with_reducible refine bdrew ?_ | with_reducible refine bset ?_ ?_ _ | with_reducible exact Nat.le_refl _ | with_reducible refine bsize ?_ | (dsimp only; refine Nat.le_trans ?_ (Nat.le_add_right _ _)) | with_reducible refine Nat.le_trans ?_ (Nat.le_add_right _ _) | (with_reducible refine bstep ?_ (by assumption))))
          · have hnew := Lib.hid (amB_low _ _ hB)
            have hnext : Hid (sumL ((allL l c d).drop (k + 1)) (lowN (x * pd + pn * y) (y * pd)) (lowD (x * pd + pn * y) (y * pd)) = sumL (allL l c d) e f) := by
              have h := hstep.out
              rw [hB] at h
              have h2 : sumL ((allL l c d).drop (k + 1)) (lowN (x * pd + pn * y) (y * pd)) (lowD (x * pd + pn * y) (y * pd)) = sumL (allL l c d) e f := by simpa using h
              exact h2
            have HC := Lib.hid hcon
            clear hcon hstep
            go_wp2_with fail
            refine (HC.out _).mono ?_
            rintro en w3 ⟨rfl, hb3⟩
            rw [hB]
            obtain ⟨kc3, kf3, kz3, ky3, kx3, kv3, ku3⟩ := bcell hb3
            have ha4 : Below w.heap.size w w3 := by (repeat (first | with_reducible exact Below.refl _ _ | with_reducible assumption | with_reducible refine balloc ?_ _ | with_reducible refine bdrew ?_ | with_reducible refine bset ?_ ?_ _ | with_reducible exact Nat.le_refl _ | with_reducible refine bsize ?_ | (dsimp only; refine Nat.le_trans ?_ (Nat.le_add_right _ _)) | with_reducible refine Nat.le_trans ?_ (Nat.le_add_right _ _) | (with_reducible refine bstep ?_ (by assumption))))
            have hL3 := liesG_below (liesG_below hLw.out (balloc (Below.refl wr.heap.size wr) (.cells #[.int .i64 pn, .int .i64 pd] 27))) hb3
            have HL3 := Lib.hid hL3
            clear hL3
            have q3_h_1_0 : w3.cell? ⟨w.heap.size + 1, 0, none⟩ = some (.int .i64 0) := by rw [kc3 _ _ (by first | assumption | (simp; done) | (simp; omega) | omega)]; simp [go_sem, s1, s2, s3, s4, r1, r2, r3, r4, z1, hs]
            have r3_h_1_0 : w3.frozen? ⟨w.heap.size + 1, 0, none⟩ = false := by rw [kf3 _ _ (by first | assumption | (simp; done) | (simp; omega) | omega)]; simp [go_sem, s1, s2, s3, s4, r1, r2, r3, r4, z1, hs]
            have q3_h_1_1 : w3.cell? ⟨w.heap.size + 1, 1, none⟩ = some (.int .i64 0) := by rw [kc3 _ _ (by first | assumption | (simp; done) | (simp; omega) | omega)]; simp [go_sem, s1, s2, s3, s4, r1, r2, r3, r4, z1, hs]
            have r3_h_1_1 : w3.frozen? ⟨w.heap.size + 1, 1, none⟩ = false := by rw [kf3 _ _ (by first | assumption | (simp; done) | (simp; omega) | omega)]; simp [go_sem, s1, s2, s3, s4, r1, r2, r3, r4, z1, hs]
            have z3_h_1 : w.heap.size + 1 < w3.heap.size := kz3 _ (by first | assumption | (simp; done) | (simp; omega) | omega)
            have q3_w1_0 : w3.cell? ⟨w1.heap.size, 0, none⟩ = some (.int .i64 x) := by rw [kc3 _ _ (by first | assumption | (simp; done) | (simp; omega) | omega)]; simp [go_sem, s1, s2, s3, s4, r1, r2, r3, r4, z1, hs]
            have r3_w1_0 : w3.frozen? ⟨w1.heap.size, 0, none⟩ = false := by rw [kf3 _ _ (by first | assumption | (simp; done) | (simp; omega) | omega)]; simp [go_sem, s1, s2, s3, s4, r1, r2, r3, r4, z1, hs]
            have q3_w1_1 : w3.cell? ⟨w1.heap.size, 1, none⟩ = some (.int .i64 y) := by rw [kc3 _ _ (by first | assumption | (simp; done) | (simp; omega) | omega)]; simp [go_sem, s1, s2, s3, s4, r1, r2, r3, r4, z1, hs]
            have r3_w1_1 : w3.frozen? ⟨w1.heap.size, 1, none⟩ = false := by rw [kf3 _ _ (by first | assumption | (simp; done) | (simp; omega) | omega)]; simp [go_sem, s1, s2, s3, s4, r1, r2, r3, r4, z1, hs]
            have z3_w1 : w1.heap.size < w3.heap.size := kz3 _ (by first | assumption | (simp; done) | (simp; omega) | omega)
            clear kc3 kf3 kz3 ky3 kx3 kv3 ku3 hb3 s1 s2 s3 s4 r1 r2 r3 r4 z1 hs
            go_wp2
            go_roundw
            case rel =>
              refine ⟨k + 1, by omega, by go_num, _, _, hnew, hnext, by simp [go_sem, q3_w1_0, q3_w1_1, z3_w1], by simp [go_sem, q3_w1_0, q3_w1_1, z3_w1], by simp [go_sem, r3_w1_0, z3_w1], by simp [go_sem, r3_w1_1, z3_w1], by simp [go_sem, q3_h_1_0, z3_h_1, nb], by simp [go_sem, q3_h_1_1, z3_h_1, nb], by simp [go_sem, r3_h_1_0, z3_h_1, nb], by simp [go_sem, r3_h_1_1, z3_h_1, nb], by simp; omega, ?_, Lib.hid ?_⟩
              · (repeat (first | with_reducible exact Below.refl _ _ | with_reducible assumption | with_reducible refine balloc ?_ _ | with_reducible refine bdrew ?_ | with_reducible refine bset ?_ ?_ _ | with_reducible exact Nat.le_refl _ | with_reducible refine bsize ?_ | (dsimp only; refine Nat.le_trans ?_ (Nat.le_add_right _ _)) | with_reducible refine Nat.le_trans ?_ (Nat.le_add_right _ _) | (with_reducible refine bstep ?_ (by assumption))))
              · (repeat (first | exact HL3.out | (refine liesG_alloc ?_ _) | (refine liesG_set ?_ ?_ _))) <;> (intro hq; dsimp only at hq; omega)
            case measure => simp [intOf]; omega
        · have hkl : k = (allL l c d).length := by omega
          subst hkl
          have hfin : sumL (allL l c d) e f = some (x, y) := by
            have := hfold.out
            rw [List.drop_length] at this
            exact this.symm
          have HF := Lib.hid hfin
          clear hfin hfold
          go_wp2
          rw [HF.out]
          refine bodyPost_ret (v := .tuple #[.agg #[.int .i64 x, .int .i64 y], .bool true]) (by simp only [results, Try.results42]; go_simp) rfl ⟨rfl, ?_⟩
          (repeat (first | with_reducible exact Below.refl _ _ | with_reducible assumption | with_reducible refine balloc ?_ _ | with_reducible refine bdrew ?_ | with_reducible refine bset ?_ ?_ _ | with_reducible exact Nat.le_refl _ | with_reducible refine bsize ?_ | (dsimp only; refine Nat.le_trans ?_ (Nat.le_add_right _ _)) | with_reducible refine Nat.le_trans ?_ (Nat.le_add_right _ _) | (with_reducible refine bstep ?_ (by assumption))))
theorem fuelAll_spec_no (a b c d e f : Int) (ad : Addr) (cap : Nat) (l : List DepotV) (w : World) (hL : LiesG 4 fDepot w ad cap l) (hs : stateB a b c d e f l = false) :
    Calls Try.prog 42 #[.agg #[.int .i64 a, .int .i64 b, .int .i64 c, .int .i64 d, .int .i64 e, .int .i64 f, .slice (some ad) l.length cap]] w fun en w' => en = .returned (.tuple #[.agg #[.int .i64 0, .int .i64 0], .bool false]) ∧ Below w.heap.size w w' := by
  have hcon := fun W (hb : Below w.heap.size w W) => tpGood_spec a b c d e f ad cap l W (liesG_below hL hb)
  rw [hs] at hcon
  have HC := Lib.hid hcon
  clear hcon hs
  go_enter Try.func42, Try.ntmps42
  (go_wp2_with fail; refine (HC.out _ (by (repeat (first | with_reducible exact Below.refl _ _ | with_reducible assumption | with_reducible refine balloc ?_ _ | with_reducible refine bdrew ?_ | with_reducible refine bset ?_ ?_ _ | with_reducible exact Nat.le_refl _ | with_reducible refine bsize ?_ | (dsimp only; refine Nat.le_trans ?_ (Nat.le_add_right _ _)) | with_reducible refine Nat.le_trans ?_ (Nat.le_add_right _ _) | (with_reducible refine bstep ?_ (by assumption)))))).mono ?_; rintro e w1 ⟨rfl, hb1⟩; (have ha1 : Below w.heap.size w w1 := by (repeat (first | with_reducible exact Below.refl _ _ | with_reducible assumption | with_reducible refine balloc ?_ _ | with_reducible refine bdrew ?_ | with_reducible refine bset ?_ ?_ _ | with_reducible exact Nat.le_refl _ | with_reducible refine bsize ?_ | (dsimp only; refine Nat.le_trans ?_ (Nat.le_add_right _ _)) | with_reducible refine Nat.le_trans ?_ (Nat.le_add_right _ _) | (with_reducible refine bstep ?_ (by assumption))))); obtain ⟨kc1, kf1, kz1, ky1, kx1, kv1, ku1⟩ := bcell hb1)
  have q1_h_0 : w1.cell? ⟨w.heap.size, 0, none⟩ = some (.int .i64 a) := by rw [kc1 _ _ (by first | assumption | (simp; done) | (simp; omega) | omega)]; simp [go_sem]
  have r1_h_0 : w1.frozen? ⟨w.heap.size, 0, none⟩ = false := by rw [kf1 _ _ (by first | assumption | (simp; done) | (simp; omega) | omega)]; simp [go_sem]
  have q1_h_1 : w1.cell? ⟨w.heap.size, 1, none⟩ = some (.int .i64 b) := by rw [kc1 _ _ (by first | assumption | (simp; done) | (simp; omega) | omega)]; simp [go_sem]
  have r1_h_1 : w1.frozen? ⟨w.heap.size, 1, none⟩ = false := by rw [kf1 _ _ (by first | assumption | (simp; done) | (simp; omega) | omega)]; simp [go_sem]
  have q1_h_2 : w1.cell? ⟨w.heap.size, 2, none⟩ = some (.int .i64 c) := by rw [kc1 _ _ (by first | assumption | (simp; done) | (simp; omega) | omega)]; simp [go_sem]
  have r1_h_2 : w1.frozen? ⟨w.heap.size, 2, none⟩ = false := by rw [kf1 _ _ (by first | assumption | (simp; done) | (simp; omega) | omega)]; simp [go_sem]
  have q1_h_3 : w1.cell? ⟨w.heap.size, 3, none⟩ = some (.int .i64 d) := by rw [kc1 _ _ (by first | assumption | (simp; done) | (simp; omega) | omega)]; simp [go_sem]
  have r1_h_3 : w1.frozen? ⟨w.heap.size, 3, none⟩ = false := by rw [kf1 _ _ (by first | assumption | (simp; done) | (simp; omega) | omega)]; simp [go_sem]
  have q1_h_4 : w1.cell? ⟨w.heap.size, 4, none⟩ = some (.int .i64 e) := by rw [kc1 _ _ (by first | assumption | (simp; done) | (simp; omega) | omega)]; simp [go_sem]
  have r1_h_4 : w1.frozen? ⟨w.heap.size, 4, none⟩ = false := by rw [kf1 _ _ (by first | assumption | (simp; done) | (simp; omega) | omega)]; simp [go_sem]
  have q1_h_5 : w1.cell? ⟨w.heap.size, 5, none⟩ = some (.int .i64 f) := by rw [kc1 _ _ (by first | assumption | (simp; done) | (simp; omega) | omega)]; simp [go_sem]
  have r1_h_5 : w1.frozen? ⟨w.heap.size, 5, none⟩ = false := by rw [kf1 _ _ (by first | assumption | (simp; done) | (simp; omega) | omega)]; simp [go_sem]
  have q1_h_6 : w1.cell? ⟨w.heap.size, 6, none⟩ = some (.slice (some ad) l.length cap) := by rw [kc1 _ _ (by first | assumption | (simp; done) | (simp; omega) | omega)]; simp [go_sem]
  have r1_h_6 : w1.frozen? ⟨w.heap.size, 6, none⟩ = false := by rw [kf1 _ _ (by first | assumption | (simp; done) | (simp; omega) | omega)]; simp [go_sem]
  have z1_h : w.heap.size < w1.heap.size := kz1 _ (by first | assumption | (simp; done) | (simp; omega) | omega)
  have q1_h_1_0 : w1.cell? ⟨w.heap.size + 1, 0, none⟩ = some (.int .i64 0) := by rw [kc1 _ _ (by first | assumption | (simp; done) | (simp; omega) | omega)]; simp [go_sem]
  have r1_h_1_0 : w1.frozen? ⟨w.heap.size + 1, 0, none⟩ = false := by rw [kf1 _ _ (by first | assumption | (simp; done) | (simp; omega) | omega)]; simp [go_sem]
  have q1_h_1_1 : w1.cell? ⟨w.heap.size + 1, 1, none⟩ = some (.int .i64 0) := by rw [kc1 _ _ (by first | assumption | (simp; done) | (simp; omega) | omega)]; simp [go_sem]
  have r1_h_1_1 : w1.frozen? ⟨w.heap.size + 1, 1, none⟩ = false := by rw [kf1 _ _ (by first | assumption | (simp; done) | (simp; omega) | omega)]; simp [go_sem]
  have z1_h_1 : w.heap.size + 1 < w1.heap.size := kz1 _ (by first | assumption | (simp; done) | (simp; omega) | omega)
  clear kc1 kf1 kz1 ky1 kx1 kv1 ku1 hb1
  go_wp2
  refine bodyPost_ret (v := .tuple #[.agg #[.int .i64 0, .int .i64 0], .bool false]) (by simp only [results, Try.results42]; go_simp) rfl ⟨rfl, ?_⟩
  (repeat (first | with_reducible exact Below.refl _ _ | with_reducible assumption | with_reducible refine balloc ?_ _ | with_reducible refine bdrew ?_ | with_reducible refine bset ?_ ?_ _ | with_reducible exact Nat.le_refl _ | with_reducible refine bsize ?_ | (dsimp only; refine Nat.le_trans ?_ (Nat.le_add_right _ _)) | with_reducible refine Nat.le_trans ?_ (Nat.le_add_right _ _) | (with_reducible refine bstep ?_ (by assumption))))
theorem faO_no {a b c d e f : Int} {l : List DepotV} (h : stateB a b c d e f l = false) : faO a b c d e f l = none := by unfold faO; rw [h]; rfl
theorem faO_yes {a b c d e f : Int} {l : List DepotV} (h : stateB a b c d e f l = true) : faO a b c d e f l = sumL (allL l c d) e f := by unfold faO; rw [if_pos h]
theorem fuelAll_impl (a b c d e f : Int) (ad : Addr) (cap : Nat) (l : List DepotV) (w : World) (hB : StBd a b c d e f) (hL : LiesG 4 fDepot w ad cap l) :
    Calls Try.prog 43 #[.agg #[.int .i64 a, .int .i64 b, .int .i64 c, .int .i64 d, .int .i64 e, .int .i64 f, .slice (some ad) l.length cap]] w fun en w' => en = .returned (.tuple #[.agg #[.int .i64 (oN (faO a b c d e f l)), .int .i64 (oD (faO a b c d e f l))], .bool (oB (faO a b c d e f l))]) ∧ Below w.heap.size w w' := by
  cases h : stateB a b c d e f l
  · rw [faO_no h]; exact fuelAll_impl_no a b c d e f ad cap l w hB hL h
  · rw [faO_yes h]; exact fuelAll_impl_yes a b c d e f ad cap l w hB hL h
theorem fuelAll_spec (a b c d e f : Int) (ad : Addr) (cap : Nat) (l : List DepotV) (w : World) (hL : LiesG 4 fDepot w ad cap l) :
    Calls Try.prog 42 #[.agg #[.int .i64 a, .int .i64 b, .int .i64 c, .int .i64 d, .int .i64 e, .int .i64 f, .slice (some ad) l.length cap]] w fun en w' => en = .returned (.tuple #[.agg #[.int .i64 (oN (faO a b c d e f l)), .int .i64 (oD (faO a b c d e f l))], .bool (oB (faO a b c d e f l))]) ∧ Below w.heap.size w w' := by
  cases h : stateB a b c d e f l
  · rw [faO_no h]; exact fuelAll_spec_no a b c d e f ad cap l w hL h
  · rw [faO_yes h]; exact fuelAll_spec_yes a b c d e f ad cap l w hL h
end Go.Proofs.Ytkpeiibncbcdhaa
