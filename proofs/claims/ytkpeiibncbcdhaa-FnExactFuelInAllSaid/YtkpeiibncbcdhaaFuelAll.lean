/- FuelInAll, of the program. -/
import Derived.Test.YtkpeiibncbcdhaaStLaw
import Derived.Test.YtkpeiibncbcdhaaDrivenS
import Derived.Laws.OwnMore
namespace Go.Proofs.Ytkpeiibncbcdhaa
open Go.ChangeShapes Go.WideShapes Go.ChangeAt Go.RowKit Go.Joins
set_option maxRecDepth 100000
set_option linter.unusedVariables false
set_option linter.unusedSimpArgs false

/-- The fuel of all depots; of all depots and the tank. -/
def fuelsL (l : List DepotV) : List (Int × Int) := l.map fun p => (p.n, p.d)
def allL (l : List DepotV) (c d : Int) : List (Int × Int) := fuelsL l ++ [(c, d)]
def faO (a b c d e f : Int) (l : List DepotV) : Option (Int × Int) := if stateB a b c d e f l = true then sumL (allL l c d) e f else none
theorem sumL_first (e f : Int) (h : amB e f = true) (L : List (Int × Int)) : sumL ((e, f) :: L) 0 1 = sumL L e f := by
  obtain ⟨h1, h2, h3⟩ := low_am e f h
  rw [sumL_cons, show (0 : Int) * f + e * 1 = e by omega, show (1 : Int) * f = f by omega, h1, h2, h3, h]
  rfl
theorem fuelsL_snoc (l : List DepotV) (p : DepotV) : fuelsL (l ++ [p]) = fuelsL l ++ [(p.n, p.d)] := by simp [fuelsL]
theorem fuelsL_len (l : List DepotV) : (fuelsL l).length = l.length := by simp [fuelsL]
/-- What is known of a state. -/
theorem state_len {a b c d e f : Int} {l : List DepotV} (h : stateB a b c d e f l = true) : l.length ≤ 20 := by
  simp only [stateB, Bool.and_eq_true, decide_eq_true_eq] at h; exact h.2.2.2.2.1
theorem state_sup {a b c d e f : Int} {l : List DepotV} (h : stateB a b c d e f l = true) : amB e f = true := by
  simp only [stateB, Bool.and_eq_true, decide_eq_true_eq] at h; exact h.2.2.2.1
theorem state_tank {a b c d e f : Int} {l : List DepotV} (h : stateB a b c d e f l = true) : amB c d = true := by
  simp only [stateB, Bool.and_eq_true, decide_eq_true_eq] at h; exact h.2.1
theorem state_place {a b c d e f : Int} {l : List DepotV} (h : stateB a b c d e f l = true) : amB a b = true := by
  simp only [stateB, Bool.and_eq_true, decide_eq_true_eq] at h; exact h.1
theorem depsB_all : ∀ (l : List DepotV) (x y : Int), depsB l x y = true → ∀ p ∈ l, amB p.a p.b = true ∧ smB p.n p.d = true
  | [], _, _, _, p, hp => by simp at hp
  | q :: l, x, y, h, p, hp => by
    rw [depsB_cons, Bool.and_eq_true] at h
    rcases List.mem_cons.1 hp with rfl | hp
    · have := h.1; simp only [depB, Bool.and_eq_true] at this; exact ⟨this.1, this.2.2⟩
    · exact depsB_all l _ _ h.2 p hp
theorem state_deps {a b c d e f : Int} {l : List DepotV} (h : stateB a b c d e f l = true) : depsB l 0 1 = true := by
  simp only [stateB, Bool.and_eq_true, decide_eq_true_eq] at h; exact h.2.2.2.2.2
theorem allL_good {a b c d e f : Int} {l : List DepotV} (h : stateB a b c d e f l = true) : ∀ p ∈ allL l c d, amB p.1 p.2 = true := by
  intro p hp
  simp only [allL, fuelsL, List.mem_append, List.mem_map, List.mem_singleton] at hp
  rcases hp with ⟨q, hq, rfl⟩ | rfl
  · have := (depsB_all _ _ _ (state_deps h) q hq).2; simp only [smB, Bool.and_eq_true] at this; exact this.1
  · exact state_tank h
theorem am_b64 {n d : Int} (h : amB n d = true) : ∀ y ∈ fAmt (n, d), -9223372036854775808 ≤ y ∧ y ≤ 9223372036854775807 := by
  have := am_of _ _ h
  obtain ⟨h1, h2, h3, h4⟩ := this
  intro y hy; simp [fAmt] at hy; omega

set_option maxHeartbeats 3200000 in
theorem fuelAll_impl_yes (a b c d e f : Int) (ad : Addr) (cap : Nat) (l : List DepotV) (w : World) (hB : StBd a b c d e f) (hL : LiesG 4 fDepot w ad cap l) (hs : stateB a b c d e f l = true) :
    Calls Try.prog 43 #[.agg #[.int .i64 a, .int .i64 b, .int .i64 c, .int .i64 d, .int .i64 e, .int .i64 f, .slice (some ad) l.length cap]] w fun en w' => en = .returned (.tuple #[.agg #[.int .i64 (oN (sumL (allL l c d) e f)), .int .i64 (oD (sumL (allL l c d) e f))], .bool (oB (sumL (allL l c d) e f))]) ∧ Below w.heap.size w w' := by
  have hlc := hL.hlc
  have hcap := hL.hcap
  have h20 := state_len hs
  have hgood := allL_good hs
  have hsup := state_sup hs
  obtain ⟨i0, hi, hz0, hz1, hz2⟩ := info_parts infoAmt
  have hcon := fun W (hb : Below w.heap.size w W) => isState_impl a b c d e f ad cap l W hB (liesG_below hL hb)
  rw [hs] at hcon
  have HC := Lib.hid hcon
  have HG := Lib.hid hgood
  have HU := Lib.hid hsup
  clear hcon hs hgood hsup hB
  go_enter Try.func43, Try.ntmps43
  (go_wp2_with fail; refine (HC.out _ (by (repeat (first | with_reducible exact Below.refl _ _ | with_reducible assumption | with_reducible refine balloc ?_ _ | with_reducible refine bdrew ?_ | with_reducible refine bset ?_ ?_ _ | with_reducible exact Nat.le_refl _ | with_reducible refine bsize ?_ | (dsimp only; refine Nat.le_trans ?_ (Nat.le_add_right _ _)) | with_reducible refine Nat.le_trans ?_ (Nat.le_add_right _ _) | (with_reducible refine bstep ?_ (by assumption)))))).mono ?_; rintro e w1 ⟨rfl, hb1⟩; (have ha1 : Below w.heap.size w w1 := by (repeat (first | with_reducible exact Below.refl _ _ | with_reducible assumption | with_reducible refine balloc ?_ _ | with_reducible refine bdrew ?_ | with_reducible refine bset ?_ ?_ _ | with_reducible exact Nat.le_refl _ | with_reducible refine bsize ?_ | (dsimp only; refine Nat.le_trans ?_ (Nat.le_add_right _ _)) | with_reducible refine Nat.le_trans ?_ (Nat.le_add_right _ _) | (with_reducible refine bstep ?_ (by assumption))))); obtain ⟨kc1, kf1, kz1, ky1, kx1, kv1, ku1⟩ := bcell hb1)
  have q1_h_0 : w1.cell? ⟨w.heap.size, 0, none⟩ = some (.int .i64 a) := by rw [kc1 _ _ (by first | assumption | (simp; done) | (simp; omega) | omega)]; simp [go_sem]
  have r1_h_0 : w1.frozen? ⟨w.heap.size, 0, none⟩ = false := by rw [kf1 _ _ (by first | assumption | (simp; done) | (simp; omega) | omega)]; simp [go_sem]
  have q1_h_1 : w1.cell? ⟨w.heap.size, 1, none⟩ = some (.int .i64 b) := by rw [kc1 _ _ (by first | assumption | (simp; done) | (simp; omega) | omega)]; simp [go_sem]
  have r1_h_1 : w1.frozen? ⟨w.heap.size, 1, none⟩ = false := by rw [kf1 _ _ (by first | assumption | (simp; done) | (simp; omega) | omega)]; simp [go_sem]
  have q1_h_2 : w1.cell? ⟨w.heap.size, 2, none⟩ = some (.int .i64 c) := by rw [kc1 _ _ (by first | assumption | (simp; done) | (simp; omega) | omega)]; simp [go_sem]
  have r1_h_2 : w1.frozen? ⟨w.heap.size, 2, none⟩ = false := by rw [kf1 _ _ (by first | assumption | (simp; done) | (simp; omega) | omega)]; simp [go_sem]
  have q1_h_3 : w1.cell? ⟨w.heap.size, 3, none⟩ = some (.int .i64 d) := by rw [kc1 _ _ (by first | assumption | (simp; done) | (simp; omega) | omega)]; simp [go_sem]
  have r1_h_3 : w1.frozen? ⟨w.heap.size, 3, none⟩ = false := by rw [kf1 _ _ (by first | assumption | (simp; done) | (simp; omega) | omega)]; simp [go_sem]
  have q1_h_4 : w1.cell? ⟨w.heap.size, 4, none⟩ = some (.int .i64 e) := by rw [kc1 _ _ (by first | assumption | (simp; done) | (simp; omega) | omega)]; simp [go_sem]
  have r1_h_4 : w1.frozen? ⟨w.heap.size, 4, none⟩ = false := by rw [kf1 _ _ (by first | assumption | (simp; done) | (simp; omega) | omega)]; simp [go_sem]
  have q1_h_5 : w1.cell? ⟨w.heap.size, 5, none⟩ = some (.int .i64 f) := by rw [kc1 _ _ (by first | assumption | (simp; done) | (simp; omega) | omega)]; simp [go_sem]
  have r1_h_5 : w1.frozen? ⟨w.heap.size, 5, none⟩ = false := by rw [kf1 _ _ (by first | assumption | (simp; done) | (simp; omega) | omega)]; simp [go_sem]
  have q1_h_6 : w1.cell? ⟨w.heap.size, 6, none⟩ = some (.slice (some ad) l.length cap) := by rw [kc1 _ _ (by first | assumption | (simp; done) | (simp; omega) | omega)]; simp [go_sem]
  have r1_h_6 : w1.frozen? ⟨w.heap.size, 6, none⟩ = false := by rw [kf1 _ _ (by first | assumption | (simp; done) | (simp; omega) | omega)]; simp [go_sem]
  have z1_h : w.heap.size < w1.heap.size := kz1 _ (by first | assumption | (simp; done) | (simp; omega) | omega)
  have q1_h_1_0 : w1.cell? ⟨w.heap.size + 1, 0, none⟩ = some (.int .i64 0) := by rw [kc1 _ _ (by first | assumption | (simp; done) | (simp; omega) | omega)]; simp [go_sem]
  have r1_h_1_0 : w1.frozen? ⟨w.heap.size + 1, 0, none⟩ = false := by rw [kf1 _ _ (by first | assumption | (simp; done) | (simp; omega) | omega)]; simp [go_sem]
  have q1_h_1_1 : w1.cell? ⟨w.heap.size + 1, 1, none⟩ = some (.int .i64 0) := by rw [kc1 _ _ (by first | assumption | (simp; done) | (simp; omega) | omega)]; simp [go_sem]
  have r1_h_1_1 : w1.frozen? ⟨w.heap.size + 1, 1, none⟩ = false := by rw [kf1 _ _ (by first | assumption | (simp; done) | (simp; omega) | omega)]; simp [go_sem]
  have z1_h_1 : w.heap.size + 1 < w1.heap.size := kz1 _ (by first | assumption | (simp; done) | (simp; omega) | omega)
  clear kc1 kf1 kz1 ky1 kx1 kv1 ku1 hb1
  have hown1 := World.ownsRow_lit (base := w1.heap.size) (size := 2) (e := 27) w1 #[.int .i64 e, .int .i64 f] 1 (Nat.le_refl _) (by unfold maxLen; omega) rfl
  have HO := Lib.hid hown1
  clear hown1
  go_wp2
  go_loopw [4, 17] (fun v i wr => ∃ k : Nat, k ≤ l.length ∧ i = .int .i64 k ∧ wr.ownsRow w1.heap.size 27 2 v (((e, f) :: fuelsL (l.take k)).length) (cellsG fAmt ((e, f) :: fuelsL (l.take k))) ∧ Below w1.heap.size w1 wr) (fun _ i _ => l.length - (intOf i).toNat)
  case atStart => exact ⟨0, Nat.zero_le _, rfl, HO.out, by (repeat (first | with_reducible exact Below.refl _ _ | with_reducible assumption | with_reducible refine balloc ?_ _ | with_reducible refine bdrew ?_ | with_reducible refine bset ?_ ?_ _ | with_reducible exact Nat.le_refl _ | with_reducible refine bsize ?_ | (dsimp only; refine Nat.le_trans ?_ (Nat.le_add_right _ _)) | with_reducible refine Nat.le_trans ?_ (Nat.le_add_right _ _) | (with_reducible refine bstep ?_ (by assumption))))⟩
  case round =>
    obtain ⟨k, hk, rfl, hown, hbel⟩ := hrel
    have hwl : ((e, f) :: fuelsL (l.take k)).length = k + 1 := by rw [List.length_cons, fuelsL_len, List.length_take]; omega
    have HWL := Lib.hid hwl
    have hwl2 : ((e, f) :: fuelsL (l.take k)).length ≤ 121 := by omega
    have hwl3 : (fuelsL (l.take k)).length ≤ 121 := by rw [List.length_cons] at hwl2; omega
    clear hwl
    by_cases hlt : k < l.length
    · obtain ⟨p, hp⟩ : ∃ p, l[k]? = some p := ⟨_, List.getElem?_eq_getElem hlt⟩
      have hc := (liesG_below hL (bstep ha1 hbel)).hcell k p hp
      have htk := take_snoc l k p hp
      obtain ⟨pa, pb, pn, pd⟩ := p
      have e0 := hc 0 pa rfl
      rw [Nat.add_zero] at e0
      have e1 : wr.cell? ⟨(ad.add (k * 4)).block, (ad.add (k * 4)).off + 1, none⟩ = some (.int .i64 pb) := by
        have h := hc 1 pb rfl
        rw [← Deep.add_add] at h
        exact h
      have e2 : wr.cell? ⟨(ad.add (k * 4)).block, (ad.add (k * 4)).off + 2, none⟩ = some (.int .i64 pn) := by
        have h := hc 2 pn rfl
        rw [← Deep.add_add] at h
        exact h
      have e3 : wr.cell? ⟨(ad.add (k * 4)).block, (ad.add (k * 4)).off + 3, none⟩ = some (.int .i64 pd) := by
        have h := hc 3 pd rfl
        rw [← Deep.add_add] at h
        exact h
      clear hc
      have hnew := fuelsL_snoc (l.take k) ⟨pa, pb, pn, pd⟩
      rw [← htk] at hnew
      have HN := Lib.hid hnew
      clear hnew htk hp
      go_wp2_with (at_builtin; refine wpList_append_own _ rfl _ _ 96 rfl w1.heap.size 27 i0 (.agg #[.int .i64 0, .int .i64 0]) 2 16 Try.underlying96 hi hz0 hz1 hz2 rfl (by decide) _ _ _ rfl ((hown.alloc _).alloc _) ⟨wr.heap.size + 1, 0, none⟩ 1 1 [.int .i64 pn, .int .i64 pd] rfl rfl ?c1a ?c2a ?c3a ?c4a ?c5a ?_)
      try (case c1a => exact cell_two_new _ _ _ _)
      case c2a => simp [Value.oneCell']
      case c3a => unfold maxLen; omega
      case c4a => omega
      case c5a => have := hbel.size; simp; omega
      intro v' w2 hown' hgrow _
      have hown2 : w2.ownsRow w1.heap.size 27 2 v' (((e, f) :: fuelsL (l.take (k + 1))).length) (cellsG fAmt ((e, f) :: fuelsL (l.take (k + 1)))) := by
        rw [HN.out, ← List.cons_append, cellsG_snoc]; simpa [fAmt] using hown'
      have hbel2 : Below w1.heap.size w1 w2 := by
        refine ((hbel.alloc hbel.size _).alloc (by have := hbel.size; simp; omega) _).grown hgrow ?_ (fun g e => own_block hown e)
        have := hbel.size; simp; omega
      clear hown' hgrow hown hbel
      go_wp2
      go_roundw
      case rel => exact ⟨k + 1, by omega, by go_num, hown2, hbel2⟩
      case measure => simp [intOf]; omega
    · have hkn : k = l.length := by omega
      subst hkn
      rw [List.take_length] at hown hwl2 hwl3
      have c0 := keepa hbel z1_h_1 q1_h_1_0
      have c1 := keepa hbel z1_h_1 q1_h_1_1
      have c2 := keepa hbel z1_h q1_h_2
      have c3 := keepa hbel z1_h q1_h_3
      have g0 : wr.frozen? ⟨w.heap.size + 1, 0, none⟩ = false := (hbel.frozen (p := ⟨w.heap.size + 1, 0, none⟩) z1_h_1).trans r1_h_1_0
      have g1 : wr.frozen? ⟨w.heap.size + 1, 1, none⟩ = false := (hbel.frozen (p := ⟨w.heap.size + 1, 1, none⟩) z1_h_1).trans r1_h_1_1
      have s0 : w.heap.size + 1 < wr.heap.size := Nat.lt_of_lt_of_le z1_h_1 hbel.size
      have s1 : w.heap.size < wr.heap.size := by omega
      have ha2 : Below w.heap.size w wr := bstep ha1 hbel
      have p10 := Lib.hid q1_h_1_0
      have p11 := Lib.hid q1_h_1_1
      have p12 := Lib.hid r1_h_1_0
      have p13 := Lib.hid r1_h_1_1
      have HZ := Lib.hid z1_h_1
      clear q1_h_0 q1_h_1 q1_h_2 q1_h_3 q1_h_4 q1_h_5 q1_h_6 r1_h_0 r1_h_1 r1_h_2 r1_h_3 r1_h_4 r1_h_5 r1_h_6 z1_h q1_h_1_0 q1_h_1_1 r1_h_1_0 r1_h_1_1 z1_h_1
      go_wp2_with (at_builtin; refine wpList_append_own _ rfl _ _ 96 rfl w1.heap.size 27 i0 (.agg #[.int .i64 0, .int .i64 0]) 2 16 Try.underlying96 hi hz0 hz1 hz2 rfl (by decide) _ _ _ rfl (hown.alloc _) ⟨wr.heap.size, 0, none⟩ 1 1 [.int .i64 c, .int .i64 d] rfl rfl ?c1b ?c2b ?c3b ?c4b ?c5b ?_)
      try (case c1b => exact cell_two_new _ _ _ _)
      case c2b => simp [Value.oneCell']
      case c3b => unfold maxLen; omega
      case c4b => omega
      case c5b => have := hbel.size; simp; omega
      intro v' w2 hown' hgrow _
      have hown2 : w2.ownsRow w1.heap.size 27 2 v' (((e, f) :: allL l c d).length) (cellsG fAmt ((e, f) :: allL l c d)) := by
        unfold allL; rw [← List.cons_append, cellsG_snoc]; simpa [fAmt] using hown'
      have hbelA : Below w1.heap.size w1 w2 := by
        refine (hbel.alloc hbel.size _).grown hgrow ?_ (fun g e => own_block hown e)
        have := hbel.size; simp; omega
      have HB := Lib.hid hbelA
      have hrow := rowG_own fAmt_len hown2 (by intro p hp; rcases List.mem_cons.1 hp with rfl | hp; exact am_b64 HU.out; exact am_b64 (HG.out p hp))
      have HR := Lib.hid hrow
      have d0 : w2.cell? ⟨w.heap.size + 1, 0, none⟩ = some (.int .i64 0) := keepa hbelA HZ.out p10.out
      have d1 : w2.cell? ⟨w.heap.size + 1, 1, none⟩ = some (.int .i64 0) := keepa hbelA HZ.out p11.out
      have k0 : w2.frozen? ⟨w.heap.size + 1, 0, none⟩ = false := (hbelA.frozen (p := ⟨w.heap.size + 1, 0, none⟩) HZ.out).trans p12.out
      have k1 : w2.frozen? ⟨w.heap.size + 1, 1, none⟩ = false := (hbelA.frozen (p := ⟨w.heap.size + 1, 1, none⟩) HZ.out).trans p13.out
      have s2 : w.heap.size + 1 < w2.heap.size := Nat.lt_of_lt_of_le HZ.out hbelA.size
      have ha3 : Below w.heap.size w w2 := bstep ha1 hbelA
      clear hrow hown' hown2 hgrow hown hbel hbelA c0 c1 c2 c3 g0 g1 s0 s1
      go_wp2_with fail
      refine (addUp_row _ _ _ HR.out).mono ?_
      rintro en w3 ⟨rfl, hb3⟩
      rw [sumL_first e f HU.out]
      have t0 := keepa hb3 s2 d0
      have t1 := keepa hb3 s2 d1
      have m0 : w3.frozen? ⟨w.heap.size + 1, 0, none⟩ = false := (hb3.frozen (p := ⟨w.heap.size + 1, 0, none⟩) s2).trans k0
      have m1 : w3.frozen? ⟨w.heap.size + 1, 1, none⟩ = false := (hb3.frozen (p := ⟨w.heap.size + 1, 1, none⟩) s2).trans k1
      have s3 : w.heap.size + 1 < w3.heap.size := Nat.lt_of_lt_of_le s2 hb3.size
      clear d0 d1 k0 k1 s2
      go_wp2
      refine bodyPost_ret (v := .tuple #[.agg #[.int .i64 (oN (sumL (allL l c d) e f)), .int .i64 (oD (sumL (allL l c d) e f))], .bool (oB (sumL (allL l c d) e f))]) (by simp only [results, Try.results43]; go_simp) rfl ⟨rfl, ?_⟩
      (repeat (first | with_reducible exact Below.refl _ _ | with_reducible assumption | with_reducible refine balloc ?_ _ | with_reducible refine bdrew ?_ | with_reducible refine bset ?_ ?_ _ | with_reducible exact Nat.le_refl _ | with_reducible refine bsize ?_ | (dsimp only; refine Nat.le_trans ?_ (Nat.le_add_right _ _)) | with_reducible refine Nat.le_trans ?_ (Nat.le_add_right _ _) | (with_reducible refine bstep ?_ (by assumption))))

theorem fuelAll_impl_no (a b c d e f : Int) (ad : Addr) (cap : Nat) (l : List DepotV) (w : World) (hB : StBd a b c d e f) (hL : LiesG 4 fDepot w ad cap l) (hs : stateB a b c d e f l = false) :
    Calls Try.prog 43 #[.agg #[.int .i64 a, .int .i64 b, .int .i64 c, .int .i64 d, .int .i64 e, .int .i64 f, .slice (some ad) l.length cap]] w fun en w' => en = .returned (.tuple #[.agg #[.int .i64 0, .int .i64 0], .bool false]) ∧ Below w.heap.size w w' := by
  have hcon := fun W (hb : Below w.heap.size w W) => isState_impl a b c d e f ad cap l W hB (liesG_below hL hb)
  rw [hs] at hcon
  have HC := Lib.hid hcon
  clear hcon hs hB
  go_enter Try.func43, Try.ntmps43
  (go_wp2_with fail; refine (HC.out _ (by (repeat (first | with_reducible exact Below.refl _ _ | with_reducible assumption | with_reducible refine balloc ?_ _ | with_reducible refine bdrew ?_ | with_reducible refine bset ?_ ?_ _ | with_reducible exact Nat.le_refl _ | with_reducible refine bsize ?_ | (dsimp only; refine Nat.le_trans ?_ (Nat.le_add_right _ _)) | with_reducible refine Nat.le_trans ?_ (Nat.le_add_right _ _) | (with_reducible refine bstep ?_ (by assumption)))))).mono ?_; rintro e w1 ⟨rfl, hb1⟩; (have ha1 : Below w.heap.size w w1 := by (repeat (first | with_reducible exact Below.refl _ _ | with_reducible assumption | with_reducible refine balloc ?_ _ | with_reducible refine bdrew ?_ | with_reducible refine bset ?_ ?_ _ | with_reducible exact Nat.le_refl _ | with_reducible refine bsize ?_ | (dsimp only; refine Nat.le_trans ?_ (Nat.le_add_right _ _)) | with_reducible refine Nat.le_trans ?_ (Nat.le_add_right _ _) | (with_reducible refine bstep ?_ (by assumption))))); obtain ⟨kc1, kf1, kz1, ky1, kx1, kv1, ku1⟩ := bcell hb1)
  have q1_h_0 : w1.cell? ⟨w.heap.size, 0, none⟩ = some (.int .i64 a) := by rw [kc1 _ _ (by first | assumption | (simp; done) | (simp; omega) | omega)]; simp [go_sem]
  have r1_h_0 : w1.frozen? ⟨w.heap.size, 0, none⟩ = false := by rw [kf1 _ _ (by first | assumption | (simp; done) | (simp; omega) | omega)]; simp [go_sem]
  have q1_h_1 : w1.cell? ⟨w.heap.size, 1, none⟩ = some (.int .i64 b) := by rw [kc1 _ _ (by first | assumption | (simp; done) | (simp; omega) | omega)]; simp [go_sem]
  have r1_h_1 : w1.frozen? ⟨w.heap.size, 1, none⟩ = false := by rw [kf1 _ _ (by first | assumption | (simp; done) | (simp; omega) | omega)]; simp [go_sem]
  have q1_h_2 : w1.cell? ⟨w.heap.size, 2, none⟩ = some (.int .i64 c) := by rw [kc1 _ _ (by first | assumption | (simp; done) | (simp; omega) | omega)]; simp [go_sem]
  have r1_h_2 : w1.frozen? ⟨w.heap.size, 2, none⟩ = false := by rw [kf1 _ _ (by first | assumption | (simp; done) | (simp; omega) | omega)]; simp [go_sem]
  have q1_h_3 : w1.cell? ⟨w.heap.size, 3, none⟩ = some (.int .i64 d) := by rw [kc1 _ _ (by first | assumption | (simp; done) | (simp; omega) | omega)]; simp [go_sem]
  have r1_h_3 : w1.frozen? ⟨w.heap.size, 3, none⟩ = false := by rw [kf1 _ _ (by first | assumption | (simp; done) | (simp; omega) | omega)]; simp [go_sem]
  have q1_h_4 : w1.cell? ⟨w.heap.size, 4, none⟩ = some (.int .i64 e) := by rw [kc1 _ _ (by first | assumption | (simp; done) | (simp; omega) | omega)]; simp [go_sem]
  have r1_h_4 : w1.frozen? ⟨w.heap.size, 4, none⟩ = false := by rw [kf1 _ _ (by first | assumption | (simp; done) | (simp; omega) | omega)]; simp [go_sem]
  have q1_h_5 : w1.cell? ⟨w.heap.size, 5, none⟩ = some (.int .i64 f) := by rw [kc1 _ _ (by first | assumption | (simp; done) | (simp; omega) | omega)]; simp [go_sem]
  have r1_h_5 : w1.frozen? ⟨w.heap.size, 5, none⟩ = false := by rw [kf1 _ _ (by first | assumption | (simp; done) | (simp; omega) | omega)]; simp [go_sem]
  have q1_h_6 : w1.cell? ⟨w.heap.size, 6, none⟩ = some (.slice (some ad) l.length cap) := by rw [kc1 _ _ (by first | assumption | (simp; done) | (simp; omega) | omega)]; simp [go_sem]
  have r1_h_6 : w1.frozen? ⟨w.heap.size, 6, none⟩ = false := by rw [kf1 _ _ (by first | assumption | (simp; done) | (simp; omega) | omega)]; simp [go_sem]
  have z1_h : w.heap.size < w1.heap.size := kz1 _ (by first | assumption | (simp; done) | (simp; omega) | omega)
  have q1_h_1_0 : w1.cell? ⟨w.heap.size + 1, 0, none⟩ = some (.int .i64 0) := by rw [kc1 _ _ (by first | assumption | (simp; done) | (simp; omega) | omega)]; simp [go_sem]
  have r1_h_1_0 : w1.frozen? ⟨w.heap.size + 1, 0, none⟩ = false := by rw [kf1 _ _ (by first | assumption | (simp; done) | (simp; omega) | omega)]; simp [go_sem]
  have q1_h_1_1 : w1.cell? ⟨w.heap.size + 1, 1, none⟩ = some (.int .i64 0) := by rw [kc1 _ _ (by first | assumption | (simp; done) | (simp; omega) | omega)]; simp [go_sem]
  have r1_h_1_1 : w1.frozen? ⟨w.heap.size + 1, 1, none⟩ = false := by rw [kf1 _ _ (by first | assumption | (simp; done) | (simp; omega) | omega)]; simp [go_sem]
  have z1_h_1 : w.heap.size + 1 < w1.heap.size := kz1 _ (by first | assumption | (simp; done) | (simp; omega) | omega)
  clear kc1 kf1 kz1 ky1 kx1 kv1 ku1 hb1
  go_wp2
  refine bodyPost_ret (v := .tuple #[.agg #[.int .i64 0, .int .i64 0], .bool false]) (by simp only [results, Try.results43]; go_simp) rfl ⟨rfl, ?_⟩
  (repeat (first | with_reducible exact Below.refl _ _ | with_reducible assumption | with_reducible refine balloc ?_ _ | with_reducible refine bdrew ?_ | with_reducible refine bset ?_ ?_ _ | with_reducible exact Nat.le_refl _ | with_reducible refine bsize ?_ | (dsimp only; refine Nat.le_trans ?_ (Nat.le_add_right _ _)) | with_reducible refine Nat.le_trans ?_ (Nat.le_add_right _ _) | (with_reducible refine bstep ?_ (by assumption))))
end Go.Proofs.Ytkpeiibncbcdhaa
