/- Contracts of DrivenBy on both sides. -/
import Derived.Test.YtkpeiibncbcdhaaSteps
import Derived.Test.YtkpeiibncbcdhaaAddUp
namespace Go.Proofs.Ytkpeiibncbcdhaa
open Go.ChangeShapes Go.WideShapes Go.ChangeAt Go.RowKit Go.Joins
set_option maxRecDepth 100000
set_option linter.unusedVariables false
set_option linter.unusedSimpArgs false

/-- The ways that steps drive. -/
def wayL (l : List StepV) : List (Int × Int) := (l.filter fun p => decide (p.k ≤ 1)).map fun p => (p.n, p.d)
def drO (l : List StepV) : Option (Int × Int) := if stepsB l = true then sumL (wayL l) 0 1 else none
theorem wayL_drive (l : List StepV) (p : StepV) (h : p.k ≤ 1) : wayL (l ++ [p]) = wayL l ++ [(p.n, p.d)] := by simp [wayL, List.filter_append, List.filter_cons, h]
theorem wayL_else (l : List StepV) (p : StepV) (h : ¬ p.k ≤ 1) : wayL (l ++ [p]) = wayL l := by simp [wayL, List.filter_append, List.filter_cons, h]
theorem wayL_consd (l : List StepV) (p : StepV) (h : p.k ≤ 1) : wayL (p :: l) = (p.n, p.d) :: wayL l := by simp [wayL, List.filter_cons, h]
theorem wayL_conse (l : List StepV) (p : StepV) (h : ¬ p.k ≤ 1) : wayL (p :: l) = wayL l := by simp [wayL, List.filter_cons, h]
theorem wayL_len (l : List StepV) : (wayL l).length ≤ l.length := by
  unfold wayL; rw [List.length_map]; exact List.length_filter_le _ _
theorem take_snoc {α : Type} (l : List α) (k : Nat) (p : α) (hp : l[k]? = some p) : l.take (k + 1) = l.take k ++ [p] := by rw [List.take_add_one, hp]; rfl
theorem drop_cons {α : Type} (l : List α) (k : Nat) (p : α) (hp : l[k]? = some p) : l.drop k = p :: l.drop (k + 1) := by
  have hlt : k < l.length := (List.getElem?_eq_some_iff.1 hp).1
  rw [List.drop_eq_getElem_cons hlt]
  rw [List.getElem?_eq_getElem hlt] at hp
  injection hp with hp
  rw [hp]
/-- What is known of each step of a list of steps. -/
theorem step_of {l : List StepV} (h : stepsB l = true) {k : Nat} {p : StepV} (hp : l[k]? = some p) : (0 ≤ p.k ∧ p.k ≤ 3) ∧ amB p.n p.d = true ∧ 0 < p.n := by
  unfold stepsB allB at h
  rw [Bool.and_eq_true, List.all_eq_true] at h
  have := h.2 p (List.mem_of_getElem? hp)
  simpa [stB] using this
theorem steps_len {l : List StepV} (h : stepsB l = true) : l.length ≤ 120 := by
  unfold stepsB at h
  rw [Bool.and_eq_true] at h
  simpa using h.1
theorem wayL_bd {l : List StepV} (h : ∀ p ∈ l, ∀ y ∈ fStep p, -9223372036854775808 ≤ y ∧ y ≤ 9223372036854775807) : ∀ p ∈ wayL l, ∀ y ∈ fAmt p, -9223372036854775808 ≤ y ∧ y ≤ 9223372036854775807 := by
  intro p hp y hy
  simp only [wayL, List.mem_map, List.mem_filter] at hp
  obtain ⟨q, ⟨hq, _⟩, rfl⟩ := hp
  refine h q hq y ?_
  simp [fAmt] at hy
  simp [fStep]
  exact Or.inr hy

set_option maxHeartbeats 1600000 in
theorem driven_impl_yes (a : Addr) (cap : Nat) (l : List StepV) (w : World) (hL : LiesG 3 fStep w a cap l) (hs : stepsB l = true) :
    Calls Try.prog 45 #[.slice (some a) l.length cap] w fun e w' => e = .returned (.tuple #[.agg #[.int .i64 (oN (sumL (wayL l) 0 1)), .int .i64 (oD (sumL (wayL l) 0 1))], .bool (oB (sumL (wayL l) 0 1))]) ∧ Below w.heap.size w w' := by
  have hlc := hL.hlc
  have hcap := hL.hcap
  have h120 := steps_len hs
  obtain ⟨i0, hi, hz0, hz1, hz2⟩ := info_parts infoAmt
  have hcon := fun W (hb : Below w.heap.size w W) => areSteps_impl a cap l W (liesG_below hL hb)
  rw [hs] at hcon
  have HC := Lib.hid hcon
  have HS := Lib.hid hs
  clear hcon hs
  go_enter Try.func45, Try.ntmps45
  (go_wp2_with fail; refine (HC.out _ (by (repeat (first | with_reducible exact Below.refl _ _ | with_reducible assumption | with_reducible refine balloc ?_ _ | with_reducible refine bdrew ?_ | with_reducible refine bset ?_ ?_ _ | with_reducible exact Nat.le_refl _ | with_reducible refine bsize ?_ | (dsimp only; refine Nat.le_trans ?_ (Nat.le_add_right _ _)) | with_reducible refine Nat.le_trans ?_ (Nat.le_add_right _ _) | (with_reducible refine bstep ?_ (by assumption)))))).mono ?_; rintro e w1 ⟨rfl, hb1⟩; (have ha1 : Below w.heap.size w w1 := by (repeat (first | with_reducible exact Below.refl _ _ | with_reducible assumption | with_reducible refine balloc ?_ _ | with_reducible refine bdrew ?_ | with_reducible refine bset ?_ ?_ _ | with_reducible exact Nat.le_refl _ | with_reducible refine bsize ?_ | (dsimp only; refine Nat.le_trans ?_ (Nat.le_add_right _ _)) | with_reducible refine Nat.le_trans ?_ (Nat.le_add_right _ _) | (with_reducible refine bstep ?_ (by assumption))))); obtain ⟨kc1, kf1, kz1, ky1, kx1, kv1, ku1⟩ := bcell hb1)
  have q1_h_0 : w1.cell? ⟨w.heap.size, 0, none⟩ = some (.int .i64 0) := by rw [kc1 _ _ (by first | assumption | (simp; done) | (simp; omega) | omega)]; simp [go_sem]
  have r1_h_0 : w1.frozen? ⟨w.heap.size, 0, none⟩ = false := by rw [kf1 _ _ (by first | assumption | (simp; done) | (simp; omega) | omega)]; simp [go_sem]
  have q1_h_1 : w1.cell? ⟨w.heap.size, 1, none⟩ = some (.int .i64 0) := by rw [kc1 _ _ (by first | assumption | (simp; done) | (simp; omega) | omega)]; simp [go_sem]
  have r1_h_1 : w1.frozen? ⟨w.heap.size, 1, none⟩ = false := by rw [kf1 _ _ (by first | assumption | (simp; done) | (simp; omega) | omega)]; simp [go_sem]
  have z1_h : w.heap.size < w1.heap.size := kz1 _ (by first | assumption | (simp; done) | (simp; omega) | omega)
  clear kc1 kf1 kz1 ky1 kx1 kv1 ku1 hb1
  go_wp2
  go_loopw [4, 13] (fun v i wr => ∃ k : Nat, k ≤ l.length ∧ i = .int .i64 k ∧ wr.ownsRow w1.heap.size 27 2 v (wayL (l.take k)).length (cellsG fAmt (wayL (l.take k))) ∧ Below w1.heap.size w1 wr) (fun _ i _ => l.length - (intOf i).toNat)
  case atStart => exact ⟨0, Nat.zero_le _, rfl, ⟨rfl, Or.inl ⟨rfl, rfl⟩⟩, Below.refl _ _⟩
  case round =>
    obtain ⟨k, hk, rfl, hown, hbel⟩ := hrel
    have hwl := wayL_len (l.take k)
    rw [List.length_take] at hwl
    have hwl2 : (wayL (l.take k)).length ≤ 120 := by omega
    clear hwl
    by_cases hlt : k < l.length
    · obtain ⟨p, hp⟩ : ∃ p, l[k]? = some p := ⟨_, List.getElem?_eq_getElem hlt⟩
      have hc := (liesG_below hL (bstep ha1 hbel)).hcell k p hp
      have hso := step_of HS.out hp
      have htk := take_snoc l k p hp
      obtain ⟨pk, pn, pd⟩ := p
      have e0 := hc 0 pk rfl
      rw [Nat.add_zero] at e0
      have e1 : wr.cell? ⟨(a.add (k * 3)).block, (a.add (k * 3)).off + 1, none⟩ = some (.int .i64 pn) := by
        have h := hc 1 pn rfl
        rw [← Deep.add_add] at h
        exact h
      have e2 : wr.cell? ⟨(a.add (k * 3)).block, (a.add (k * 3)).off + 2, none⟩ = some (.int .i64 pd) := by
        have h := hc 2 pd rfl
        rw [← Deep.add_add] at h
        exact h
      clear hc
      by_cases hk1 : pk ≤ 1
      · have hnew := wayL_drive (l.take k) ⟨pk, pn, pd⟩ hk1
        rw [← htk] at hnew
        have HN := Lib.hid hnew
        clear hnew htk hp
        have hz : pk = 0 ∨ pk = 1 := by have := hso.1.1; simp only at this; omega
        clear hso hk1
        rcases hz with rfl | rfl
        · go_wp2_with (at_builtin; refine wpList_append_own _ rfl _ _ 96 rfl w1.heap.size 27 i0 (.agg #[.int .i64 0, .int .i64 0]) 2 16 Try.underlying96 hi hz0 hz1 hz2 rfl (by decide) _ _ _ rfl ((hown.alloc _).alloc _) ⟨wr.heap.size + 1, 0, none⟩ 1 1 [.int .i64 pn, .int .i64 pd] rfl rfl ?c1a ?c2a ?c3a ?c4a ?c5a ?_)
          try (case c1a => exact cell_two_new _ _ _ _)
          case c2a => simp [Value.oneCell']
          case c3a => unfold maxLen; omega
          case c4a => omega
          case c5a => have := hbel.size; simp; omega
          intro v' w2 hown' hgrow _
          have hown2 : w2.ownsRow w1.heap.size 27 2 v' (wayL (l.take (k + 1))).length (cellsG fAmt (wayL (l.take (k + 1)))) := by
            rw [HN.out, cellsG_snoc]; simpa [fAmt] using hown'
          have hbel2 : Below w1.heap.size w1 w2 := by
            refine ((hbel.alloc hbel.size _).alloc (by have := hbel.size; simp; omega) _).grown hgrow ?_ (fun g e => own_block hown e)
            have := hbel.size; simp; omega
          clear hown' hgrow hown hbel
          go_wp2
          go_roundw
          case rel => exact ⟨k + 1, by omega, by go_num, hown2, hbel2⟩
          case measure => simp [intOf]; omega
        · go_wp2_with (at_builtin; refine wpList_append_own _ rfl _ _ 96 rfl w1.heap.size 27 i0 (.agg #[.int .i64 0, .int .i64 0]) 2 16 Try.underlying96 hi hz0 hz1 hz2 rfl (by decide) _ _ _ rfl ((hown.alloc _).alloc _) ⟨wr.heap.size + 1, 0, none⟩ 1 1 [.int .i64 pn, .int .i64 pd] rfl rfl ?c1b ?c2b ?c3b ?c4b ?c5b ?_)
          try (case c1b => exact cell_two_new _ _ _ _)
          case c2b => simp [Value.oneCell']
          case c3b => unfold maxLen; omega
          case c4b => omega
          case c5b => have := hbel.size; simp; omega
          intro v' w2 hown' hgrow _
          have hown2 : w2.ownsRow w1.heap.size 27 2 v' (wayL (l.take (k + 1))).length (cellsG fAmt (wayL (l.take (k + 1)))) := by
            rw [HN.out, cellsG_snoc]; simpa [fAmt] using hown'
          have hbel2 : Below w1.heap.size w1 w2 := by
            refine ((hbel.alloc hbel.size _).alloc (by have := hbel.size; simp; omega) _).grown hgrow ?_ (fun g e => own_block hown e)
            have := hbel.size; simp; omega
          clear hown' hgrow hown hbel
          go_wp2
          go_roundw
          case rel => exact ⟨k + 1, by omega, by go_num, hown2, hbel2⟩
          case measure => simp [intOf]; omega
      · have hnew := wayL_else (l.take k) ⟨pk, pn, pd⟩ hk1
        rw [← htk] at hnew
        have HN := Lib.hid hnew
        clear hnew htk hp hso
        have hn0 : (pk == 0) = false := by simp; omega
        have hn1 : (pk == 1) = false := by simp; omega
        clear hk1
        have hown2 := hown.alloc (.cells #[.int .i64 pk, .int .i64 pn, .int .i64 pd] 29)
        rw [← HN.out] at hown2
        have hbel2 := hbel.alloc hbel.size (.cells #[.int .i64 pk, .int .i64 pn, .int .i64 pd] 29)
        clear hown
        go_wp2
        go_roundw
        case rel => exact ⟨k + 1, by omega, by go_num, hown2, hbel2⟩
        case measure => simp [intOf]; omega
    · have hkn : k = l.length := by omega
      subst hkn
      rw [List.take_length] at hown hwl2
      have hrow := rowG_own fAmt_len hown (wayL_bd hL.hbd)
      have HR := Lib.hid hrow
      have c0 := keepa hbel z1_h q1_h_0
      have c1 := keepa hbel z1_h q1_h_1
      have g0 : wr.frozen? ⟨w.heap.size, 0, none⟩ = false := (hbel.frozen (p := ⟨w.heap.size, 0, none⟩) z1_h).trans r1_h_0
      have g1 : wr.frozen? ⟨w.heap.size, 1, none⟩ = false := (hbel.frozen (p := ⟨w.heap.size, 1, none⟩) z1_h).trans r1_h_1
      have s0 : w.heap.size < wr.heap.size := Nat.lt_of_lt_of_le z1_h hbel.size
      have ha2 : Below w.heap.size w wr := bstep ha1 hbel
      clear hrow hown hbel q1_h_0 q1_h_1 r1_h_0 r1_h_1 z1_h ha1
      go_wp2_with fail
      refine (addUp_row _ _ _ HR.out).mono ?_
      rintro e w3 ⟨rfl, hb3⟩
      have d0 := keepa hb3 s0 c0
      have d1 := keepa hb3 s0 c1
      have k0 : w3.frozen? ⟨w.heap.size, 0, none⟩ = false := (hb3.frozen (p := ⟨w.heap.size, 0, none⟩) s0).trans g0
      have k1 : w3.frozen? ⟨w.heap.size, 1, none⟩ = false := (hb3.frozen (p := ⟨w.heap.size, 1, none⟩) s0).trans g1
      have s3 : w.heap.size < w3.heap.size := Nat.lt_of_lt_of_le s0 hb3.size
      clear c0 c1 g0 g1 s0
      go_wp2
      refine bodyPost_ret (v := .tuple #[.agg #[.int .i64 (oN (sumL (wayL l) 0 1)), .int .i64 (oD (sumL (wayL l) 0 1))], .bool (oB (sumL (wayL l) 0 1))]) (by simp only [results, Try.results45]; go_simp) rfl ⟨rfl, ?_⟩
      (repeat (first | with_reducible exact Below.refl _ _ | with_reducible assumption | with_reducible refine balloc ?_ _ | with_reducible refine bdrew ?_ | with_reducible refine bset ?_ ?_ _ | with_reducible exact Nat.le_refl _ | with_reducible refine bsize ?_ | (dsimp only; refine Nat.le_trans ?_ (Nat.le_add_right _ _)) | with_reducible refine Nat.le_trans ?_ (Nat.le_add_right _ _) | (with_reducible refine bstep ?_ (by assumption))))

theorem driven_impl_no (a : Addr) (cap : Nat) (l : List StepV) (w : World) (hL : LiesG 3 fStep w a cap l) (hs : stepsB l = false) :
    Calls Try.prog 45 #[.slice (some a) l.length cap] w fun e w' => e = .returned (.tuple #[.agg #[.int .i64 0, .int .i64 0], .bool false]) ∧ Below w.heap.size w w' := by
  have hcon := fun W (hb : Below w.heap.size w W) => areSteps_impl a cap l W (liesG_below hL hb)
  rw [hs] at hcon
  have HC := Lib.hid hcon
  clear hcon hs
  go_enter Try.func45, Try.ntmps45
  (go_wp2_with fail; refine (HC.out _ (by (repeat (first | with_reducible exact Below.refl _ _ | with_reducible assumption | with_reducible refine balloc ?_ _ | with_reducible refine bdrew ?_ | with_reducible refine bset ?_ ?_ _ | with_reducible exact Nat.le_refl _ | with_reducible refine bsize ?_ | (dsimp only; refine Nat.le_trans ?_ (Nat.le_add_right _ _)) | with_reducible refine Nat.le_trans ?_ (Nat.le_add_right _ _) | (with_reducible refine bstep ?_ (by assumption)))))).mono ?_; rintro e w1 ⟨rfl, hb1⟩; (have ha1 : Below w.heap.size w w1 := by (repeat (first | with_reducible exact Below.refl _ _ | with_reducible assumption | with_reducible refine balloc ?_ _ | with_reducible refine bdrew ?_ | with_reducible refine bset ?_ ?_ _ | with_reducible exact Nat.le_refl _ | with_reducible refine bsize ?_ | (dsimp only; refine Nat.le_trans ?_ (Nat.le_add_right _ _)) | with_reducible refine Nat.le_trans ?_ (Nat.le_add_right _ _) | (with_reducible refine bstep ?_ (by assumption))))); obtain ⟨kc1, kf1, kz1, ky1, kx1, kv1, ku1⟩ := bcell hb1)
  have q1_h_0 : w1.cell? ⟨w.heap.size, 0, none⟩ = some (.int .i64 0) := by rw [kc1 _ _ (by first | assumption | (simp; done) | (simp; omega) | omega)]; simp [go_sem]
  have r1_h_0 : w1.frozen? ⟨w.heap.size, 0, none⟩ = false := by rw [kf1 _ _ (by first | assumption | (simp; done) | (simp; omega) | omega)]; simp [go_sem]
  have q1_h_1 : w1.cell? ⟨w.heap.size, 1, none⟩ = some (.int .i64 0) := by rw [kc1 _ _ (by first | assumption | (simp; done) | (simp; omega) | omega)]; simp [go_sem]
  have r1_h_1 : w1.frozen? ⟨w.heap.size, 1, none⟩ = false := by rw [kf1 _ _ (by first | assumption | (simp; done) | (simp; omega) | omega)]; simp [go_sem]
  have z1_h : w.heap.size < w1.heap.size := kz1 _ (by first | assumption | (simp; done) | (simp; omega) | omega)
  clear kc1 kf1 kz1 ky1 kx1 kv1 ku1 hb1
  go_wp2
  refine bodyPost_ret (v := .tuple #[.agg #[.int .i64 0, .int .i64 0], .bool false]) (by simp only [results, Try.results45]; go_simp) rfl ⟨rfl, ?_⟩
  (repeat (first | with_reducible exact Below.refl _ _ | with_reducible assumption | with_reducible refine balloc ?_ _ | with_reducible refine bdrew ?_ | with_reducible refine bset ?_ ?_ _ | with_reducible exact Nat.le_refl _ | with_reducible refine bsize ?_ | (dsimp only; refine Nat.le_trans ?_ (Nat.le_add_right _ _)) | with_reducible refine Nat.le_trans ?_ (Nat.le_add_right _ _) | (with_reducible refine bstep ?_ (by assumption))))
end Go.Proofs.Ytkpeiibncbcdhaa
