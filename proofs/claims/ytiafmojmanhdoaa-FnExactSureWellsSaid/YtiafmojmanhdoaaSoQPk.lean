/- The laws' helpers on lists of lists: equal ones; one that is written, and read again. -/
import Derived.Test.YtiafmojmanhdoaaPkS9d
import Derived.Test.YtiafmojmanhdoaaRInt
namespace Go.Proofs.Ytiafmojmanhdoaa
open Go.ChangeShapes Go.WideShapes Go.ChangeAt Go.RowKit Go.Joins
set_option maxRecDepth 100000
set_option linter.unusedVariables false
set_option linter.unusedSimpArgs false

def offZ (Z : ZL) (j : Nat) : Nat := ((Z.take j).map (fun p => p.2.length)).sum
theorem offZ_succ {Z : ZL} {j : Nat} {p : Value × List Int} (h : Z[j]? = some p) : offZ Z (j + 1) = offZ Z j + p.2.length := by
  rw [offZ, List.take_add_one, h, List.map_append, List.sum_append]
  simp [offZ]
theorem offZ_le (Z : ZL) (n : Nat) (hn : ∀ p ∈ Z, p.2.length ≤ n) (j : Nat) : offZ Z j ≤ j * n := by
  induction j with
  | zero => simp [offZ]
  | succ j ih =>
    cases h : Z[j]? with
    | none =>
      have hl := List.getElem?_eq_none_iff.1 h
      have e : offZ Z (j + 1) = offZ Z j := by rw [offZ, offZ, List.take_of_length_le (by omega), List.take_of_length_le hl]
      rw [e, Nat.add_mul]; omega
    | some p =>
      rw [offZ_succ h, Nat.add_mul]
      have := hn p (List.mem_of_getElem? h)
      omega
theorem farAt {Z : ZL} (h : Z.Pairwise Apart) {i j : Nat} {p q : Value × List Int} (hi : Z[i]? = some p) (hj : Z[j]? = some q) (hne : i ≠ j) : q.1.ownBlock = none ∨ q.1.ownBlock ≠ p.1.ownBlock := by
  have hil := (List.getElem?_eq_some_iff.1 hi)
  have hjl := (List.getElem?_eq_some_iff.1 hj)
  obtain ⟨hi1, hi2⟩ := hil
  obtain ⟨hj1, hj2⟩ := hjl
  cases hq : q.1.ownBlock with
  | none => exact Or.inl rfl
  | some g =>
    refine Or.inr (fun e => ?_)
    rcases Nat.lt_or_ge i j with hc | hc
    · have := List.pairwise_iff_getElem.1 h i j hi1 hj1 hc
      rw [hi2, hj2] at this
      exact this g e.symm hq
    · have := List.pairwise_iff_getElem.1 h j i hj1 hi1 (by omega)
      rw [hi2, hj2] at this
      exact this g hq e.symm
theorem cellZ {lo : Nat} {w : World} {a : Option Addr} {n c : Nat} {Z : ZL} (h : w.ownsRow lo 24 1 (.slice a n c) n (Z.map Prod.fst)) {j : Nat} {p : Value × List Int} (hp : Z[j]? = some p) : ∃ ad, a = some ad ∧ w.cell? (ad.add j) = some p.1 := by
  have hl := h.1
  rw [List.length_map] at hl
  have hj := (List.getElem?_eq_some_iff.1 hp).1
  cases a with
  | none => have := ((own_addr h).1 rfl).1; omega
  | some ad => exact ⟨ad, rfl, (own_addr h).2.2.2 ad rfl j p.1 (by rw [List.getElem?_map, hp]; rfl)⟩
set_option maxHeartbeats 3200000 in
theorem eqr_lists (v1 v2 : Value) (Z1 Z2 : ZL) (b1 b2 : Nat) (w : World) (hn : Z1.length ≤ 100000) (he : Z1.map Prod.snd = Z2.map Prod.snd) (hs : ∀ p ∈ Z1, p.2.length ≤ 1000) (h1 : RowsZ b1 w v1 Z1) (h2 : RowsZ b2 w v2 Z2) :
    Calls Try.prog 23 #[v1, v2] w fun e w' => e = .returned (.bool true) ∧ Below w.heap.size w w' := by
  have hl : Z2.length = Z1.length := by have := congrArg List.length he; simpa using this.symm
  obtain ⟨a1, c1, rfl⟩ := owns_shape h1.out
  obtain ⟨a2, c2, rfl⟩ := owns_shape h2.out
  have hc1 := (own_addr h1.out).2
  have hc2 := (own_addr h2.out).2
  obtain ⟨n, hn1⟩ : ∃ n, Z1.length = n := ⟨_, rfl⟩
  have HN := Lib.hid hn1
  have H1 := Lib.hid (show w.ownsRow b1 24 1 (.slice a1 n c1) n (Z1.map Prod.fst) by rw [← hn1]; exact h1.out)
  have H2 := Lib.hid (show w.ownsRow b2 24 1 (.slice a2 n c2) n (Z2.map Prod.fst) by rw [← hn1, ← hl]; exact h2.out)
  have HE := Lib.hid (fun (j : Nat) p q (hp : Z1[j]? = some p) (hq : Z2[j]? = some q) W (hB : Below w.heap.size w W) => (show Calls Try.prog 18 #[p.1, q.1] W (fun e w' => e = .returned (.bool true) ∧ Below W.heap.size W w') from by
    have e2 : p.2 = q.2 := by
      have h3 : (Z1.map Prod.snd)[j]? = (Z2.map Prod.snd)[j]? := by rw [he]
      rw [List.getElem?_map, List.getElem?_map, hp, hq] at h3
      injection h3
    have r1 := ownsRow_below (h1.inn.row p (List.mem_of_getElem? hp)) hB
    have r2 := ownsRow_below (h2.inn.row q (List.mem_of_getElem? hq)) hB
    rw [← e2] at r2
    exact eqr_ints p.1 q.1 p.2 b1 b2 W (by have := hs p (List.mem_of_getElem? hp); omega) r1 r2))
  have HS1 := Lib.hid (fun p (hp : p ∈ Z1) => owns_shape (h1.inn.row p hp))
  have HS2 := Lib.hid (fun p (hp : p ∈ Z2) => owns_shape (h2.inn.row p hp))
  have HL2 := Lib.hid (hl.trans hn1)
  rw [hl, hn1]
  rw [hn1] at hn
  clear hl hn1 h1 h2 hc1 hc2
  go_enter Try.func23, Try.ntmps23
  go_wp2
  go_loopw [5] (fun i wr => ∃ j : Nat, j ≤ n ∧ i = .int .i64 j ∧ Below w.heap.size w wr) (fun i _ => n - (intOf i).toNat)
  case atStart => exact ⟨0, Nat.zero_le _, rfl, Below.refl _ _⟩
  case round =>
    obtain ⟨j, hj, rfl, hbel⟩ := hrel
    by_cases hlt : j < n
    · obtain ⟨p, hp⟩ : ∃ p, Z1[j]? = some p := ⟨_, List.getElem?_eq_getElem (by rw [HN.out]; exact hlt)⟩
      obtain ⟨q, hq⟩ : ∃ q, Z2[j]? = some q := ⟨_, List.getElem?_eq_getElem (by rw [HL2.out]; exact hlt)⟩
      obtain ⟨d1, rfl, e1⟩ := cellZ (ownsRow_below H1.out (hbel.mono (Nat.le_refl _))) hp
      obtain ⟨d2, rfl, e2⟩ := cellZ (ownsRow_below H2.out (hbel.mono (Nat.le_refl _))) hq
      have HEj := Lib.hid (HE.out j p q hp hq)
      obtain ⟨pa, pc, hps⟩ := HS1.out p (List.mem_of_getElem? hp)
      obtain ⟨qa, qc, hqs⟩ := HS2.out q (List.mem_of_getElem? hq)
      obtain ⟨np, hnp⟩ : ∃ n, p.2.length = n := ⟨_, rfl⟩
      obtain ⟨nq, hnq⟩ : ∃ n, q.2.length = n := ⟨_, rfl⟩
      rw [hps, hnp] at e1
      rw [hqs, hnq] at e2
      rw [hps, hqs, hnp, hnq] at HEj
      clear hps hqs hnp hnq hp hq
      have hS1 := Lib.hid (fun (V : World) (h : Below wr.heap.size wr V) => (⟨h, (h.cell (cell_lt e1)).trans e1, (h.cell (cell_lt e2)).trans e2⟩ : Below wr.heap.size wr V ∧ V.cell? (d1.add j) = some (.slice pa np pc) ∧ V.cell? (d2.add j) = some (.slice qa nq qc)))
      go_upto_region 6 with fail
      clear e1 e2
      go_region_held3 (fun V => Below wr.heap.size wr V ∧ V.cell? (d1.add j) = some (.slice pa np pc) ∧ V.cell? (d2.add j) = some (.slice qa nq qc)) ((refine hS1.out _ ?_; first | with_reducible assumption | ((repeat (first | with_reducible exact Below.refl _ _ | with_reducible assumption | with_reducible refine balloc ?_ _ | with_reducible refine bdrew ?_ | with_reducible refine below_drewN ?_ _ | with_reducible refine bset ?_ ?_ _ | with_reducible exact Nat.le_refl _ | with_reducible refine bsize ?_ | (dsimp only; refine Nat.le_trans ?_ (Nat.le_add_right _ _)) | with_reducible refine Nat.le_trans ?_ (Nat.le_add_right _ _) | (with_reducible refine bstep ?_ (by assumption)))); done))) (first | (go_at_call 18; refine Calls.mono (HEj.out _ (bstep hbel (by first | with_reducible assumption | ((repeat (first | with_reducible exact Below.refl _ _ | with_reducible assumption | with_reducible refine balloc ?_ _ | with_reducible refine bdrew ?_ | with_reducible refine below_drewN ?_ _ | with_reducible refine bset ?_ ?_ _ | with_reducible exact Nat.le_refl _ | with_reducible refine bsize ?_ | (dsimp only; refine Nat.le_trans ?_ (Nat.le_add_right _ _)) | with_reducible refine Nat.le_trans ?_ (Nat.le_add_right _ _) | (with_reducible refine bstep ?_ (by assumption)))); done) : Below wr.heap.size wr _))) ?_; rintro e w3 ⟨rfl, hb3⟩; (have f3 : Below wr.heap.size wr w3 := bstep (by first | with_reducible assumption | ((repeat (first | with_reducible exact Below.refl _ _ | with_reducible assumption | with_reducible refine balloc ?_ _ | with_reducible refine bdrew ?_ | with_reducible refine below_drewN ?_ _ | with_reducible refine bset ?_ ?_ _ | with_reducible exact Nat.le_refl _ | with_reducible refine bsize ?_ | (dsimp only; refine Nat.le_trans ?_ (Nat.le_add_right _ _)) | with_reducible refine Nat.le_trans ?_ (Nat.le_add_right _ _) | (with_reducible refine bstep ?_ (by assumption)))); done)) hb3); (have g3 := hS1.out _ f3); go_split_ands))
      have hbel3 := bstep hbel f3
      clear hS1
      go_wp2
      go_roundw
      case rel => exact ⟨j + 1, by omega, by go_num, hbel3⟩
      case measure => simp [intOf]; omega
    · go_wp2
      go_ret
      exact ⟨rfl, hbel⟩
/-- Lists that were written: ascending numbers, from s on. -/
structure MkZ (lo : Nat) (W : World) (v : Value) (Z : ZL) (s : Int) : Prop where
  out : W.ownsRow lo 24 1 v Z.length (Z.map Prod.fst)
  row : ∀ (j : Nat) (p : Value × List Int), Z[j]? = some p → ∃ ys, W.ownsRow lo 3 1 p.1 p.2.length ys ∧ ∀ i : Nat, i < p.2.length → ys[i]? = some (.int .i64 (s + (offZ Z j : Int) + (i : Int)))
theorem MkZ.below {lo : Nat} {W W' : World} {v : Value} {Z : ZL} {s : Int} (h : MkZ lo W v Z s) (hb : Below W.heap.size W W') : MkZ lo W' v Z s :=
  ⟨ownsRow_below h.out hb, fun j p hp => by obtain ⟨ys, h1, h2⟩ := h.row j p hp; exact ⟨ys, ownsRow_below h1 hb, h2⟩⟩
set_option maxHeartbeats 3200000 in
theorem markr_lists (lo : Nat) (v : Value) (Z : ZL) (w : World) (hn : Z.length ≤ 100000) (hs : ∀ p ∈ Z, p.2.length ≤ 100) (hlo : lo ≤ w.heap.size) (h : RowsZ lo w v Z) :
    Calls Try.prog 26 #[v, .int .i64 1] w fun e w' => e = .returned (.int .i64 (1 + (offZ Z Z.length : Int))) ∧ MkZ lo w' v Z 1 ∧ Below lo w w' := by
  obtain ⟨a1, c1, rfl⟩ := owns_shape h.out
  obtain ⟨n, hn1⟩ : ∃ n, Z.length = n := ⟨_, rfl⟩
  have HN := Lib.hid hn1
  have H1 : w.ownsRow lo 24 1 (.slice a1 n c1) n (Z.map Prod.fst) := by rw [← hn1]; exact h.out
  have HR := Lib.hid h.inn
  have HO := Lib.hid (fun j => offZ_le Z 100 hs j)
  have HSZ := Lib.hid hs
  have HLO := Lib.hid hlo
  rw [hn1] at hn ⊢
  clear hn1 h hs
  go_enter Try.func26, Try.ntmps26
  go_wp2
  go_loopw [1, 5] (fun s i wr => ∃ j : Nat, j ≤ n ∧ i = .int .i64 j ∧ s = .int .i64 (1 + (offZ Z j : Int)) ∧ wr.ownsRow lo 24 1 (.slice a1 n c1) n (Z.map Prod.fst) ∧ Hid (∀ (j' : Nat) (p : Value × List Int), j' < j → Z[j']? = some p → ∃ ys, wr.ownsRow lo 3 1 p.1 p.2.length ys ∧ ∀ i : Nat, i < p.2.length → ys[i]? = some (.int .i64 (1 + (offZ Z j' : Int) + (i : Int)))) ∧ Hid (∀ (j' : Nat) (p : Value × List Int), j ≤ j' → Z[j']? = some p → wr.ownsRow lo 3 1 p.1 p.2.length (cellsG fInt p.2)) ∧ Below lo w wr) (fun _ i _ => n - (intOf i).toNat)
  case atStart => exact ⟨0, Nat.zero_le _, rfl, by simp [offZ], H1, Lib.hid (fun j' p hj' => absurd hj' (by omega)), Lib.hid (fun j' p _ hp => HR.out.row p (List.mem_of_getElem? hp)), Below.refl _ _⟩
  case round =>
    obtain ⟨j, hj, rfl, rfl, hown, hA, hB, hbel⟩ := hrel
    clear H1
    by_cases hlt : j < n
    · obtain ⟨p, hp⟩ : ∃ p, Z[j]? = some p := ⟨_, List.getElem?_eq_getElem (by rw [HN.out]; exact hlt)⟩
      obtain ⟨d1, rfl, e1⟩ := cellZ hown hp
      have hrow := hB.out j p (Nat.le_refl _) hp
      obtain ⟨pa, pc, hps⟩ := owns_shape hrow
      have hso := offZ_succ hp
      have hsp := HSZ.out p (List.mem_of_getElem? hp)
      have hoj := HO.out j
      have HP := Lib.hid hp
      obtain ⟨np, hnp⟩ : ∃ n, p.2.length = n := ⟨_, rfl⟩
      have HNP := Lib.hid hnp
      have HPS := Lib.hid hps
      have hMK := markr_ints lo np p.1 (1 + (offZ Z j : Int)) (cellsG fInt p.2) wr (by omega) (by omega) (by omega) (by rw [← hnp]; exact hrow)
      rw [hnp] at hso
      rw [hps, hnp] at e1
      rw [hps, hnp] at hMK
      have HMK := Lib.hid hMK
      have HSO := Lib.hid hso
      clear hps hp hrow hMK hnp hso
      go_wp2_with fail
      refine Calls.mono HMK.out ?_
      rintro e w2 ⟨rfl, hgr, ys, hown2, hys⟩
      have hpv : Value.slice pa np pc = p.1 := by rw [HPS.out, HNP.out]
      rw [hpv] at hgr hown2
      have hrow := hB.out j p (Nat.le_refl _) HP.out
      have hown3 := hown.kept hgr (rows_far hown hrow (by decide))
      have hA2 : Hid (∀ (j' : Nat) (q : Value × List Int), j' < j + 1 → Z[j']? = some q → ∃ ys, w2.ownsRow lo 3 1 q.1 q.2.length ys ∧ ∀ i : Nat, i < q.2.length → ys[i]? = some (.int .i64 (1 + (offZ Z j' : Int) + (i : Int)))) := by
        refine Lib.hid (fun j' q hj' hq => ?_)
        by_cases ej : j' = j
        · subst ej
          have e5 := HP.out
          rw [hq] at e5
          injection e5 with e5
          subst e5
          exact ⟨ys, by rw [HNP.out]; exact hown2, fun i hi => hys i (by rw [← HNP.out]; exact hi)⟩
        · obtain ⟨zs, h1, h2⟩ := hA.out j' q (by omega) hq
          exact ⟨zs, h1.kept hgr (farAt HR.out.far HP.out hq (fun e => ej e.symm)), h2⟩
      have hB2 : Hid (∀ (j' : Nat) (q : Value × List Int), j + 1 ≤ j' → Z[j']? = some q → w2.ownsRow lo 3 1 q.1 q.2.length (cellsG fInt q.2)) :=
        Lib.hid (fun j' q hj' hq => (hB.out j' q (by omega) hq).kept hgr (farAt HR.out.far HP.out hq (by omega)))
      have hbel2 : Below lo w w2 := hbel.grown hgr (Nat.le_trans HLO.out hbel.size) (fun g e => own_block hrow e)
      clear hown hA hB hgr hown2 hys hrow hpv
      go_wp2
      go_roundw
      case rel => exact ⟨j + 1, by omega, by go_num, by rw [HSO.out]; push_cast; simp only [Int.add_assoc], hown3, hA2, hB2, hbel2⟩
      case measure => simp [intOf]; omega
    · have hjn : j = n := by omega
      subst hjn
      have hfin : MkZ lo wr (.slice a1 j c1) Z 1 := ⟨by rw [HN.out]; exact hown, fun j' p hp => hA.out j' p (by rw [← HN.out]; exact (List.getElem?_eq_some_iff.1 hp).1) hp⟩
      have HFIN := Lib.hid hfin
      clear hA hB hfin
      go_wp2
      go_ret
      exact ⟨rfl, HFIN.out, hbel⟩
set_option maxHeartbeats 3200000 in
theorem heldr_lists (lo : Nat) (v : Value) (Z : ZL) (w : World) (hn : Z.length ≤ 100000) (hs : ∀ p ∈ Z, p.2.length ≤ 100) (h : MkZ lo w v Z 1) :
    Calls Try.prog 27 #[v, .int .i64 1] w fun e w' => e = .returned (.int .i64 (1 + (offZ Z Z.length : Int))) ∧ Below w.heap.size w w' := by
  obtain ⟨a1, c1, rfl⟩ := owns_shape h.out
  obtain ⟨n, hn1⟩ : ∃ n, Z.length = n := ⟨_, rfl⟩
  have HN := Lib.hid hn1
  have H1 := Lib.hid (show w.ownsRow lo 24 1 (.slice a1 n c1) n (Z.map Prod.fst) by rw [← hn1]; exact h.out)
  have HR := Lib.hid h.row
  have HO := Lib.hid (fun j => offZ_le Z 100 hs j)
  have HSZ := Lib.hid hs
  rw [hn1] at hn ⊢
  clear hn1 h hs
  go_enter Try.func27, Try.ntmps27
  go_wp2
  go_loopw [1, 5] (fun s i wr => ∃ j : Nat, j ≤ n ∧ i = .int .i64 j ∧ s = .int .i64 (1 + (offZ Z j : Int)) ∧ Below w.heap.size w wr) (fun _ i _ => n - (intOf i).toNat)
  case atStart => exact ⟨0, Nat.zero_le _, rfl, by simp [offZ], Below.refl _ _⟩
  case round =>
    obtain ⟨j, hj, rfl, rfl, hbel⟩ := hrel
    by_cases hlt : j < n
    · obtain ⟨p, hp⟩ : ∃ p, Z[j]? = some p := ⟨_, List.getElem?_eq_getElem (by rw [HN.out]; exact hlt)⟩
      obtain ⟨d1, rfl, e1⟩ := cellZ (ownsRow_below H1.out hbel) hp
      obtain ⟨ys, hrow, hys⟩ := HR.out j p hp
      obtain ⟨pa, pc, hps⟩ := owns_shape hrow
      have hso := offZ_succ hp
      have hsp := HSZ.out p (List.mem_of_getElem? hp)
      have hoj := HO.out j
      obtain ⟨np, hnp⟩ : ∃ n, p.2.length = n := ⟨_, rfl⟩
      have hMK := fun W (hB : Below w.heap.size w W) => heldr_ints lo np p.1 (1 + (offZ Z j : Int)) ys W (by omega) (by omega) (by omega) (by rw [← hnp]; exact ownsRow_below hrow hB) (fun i hi => hys i (by rw [hnp]; exact hi))
      rw [hnp] at hso
      rw [hps, hnp] at e1
      rw [hps, hnp] at hMK
      have HMK := Lib.hid hMK
      have HSO := Lib.hid hso
      clear hps hp hrow hMK hnp hso hys
      go_wp2_with fail
      refine Calls.mono (HMK.out _ hbel) ?_
      rintro e w2 ⟨rfl, hb2⟩
      have hneg : ¬ (1 + (offZ Z j : Int) + (np : Int) < 0) := by omega
      have hbel2 := bstep hbel hb2
      go_wp2
      go_roundw
      case rel => exact ⟨j + 1, by omega, by go_num, by rw [HSO.out]; push_cast; simp only [Int.add_assoc], hbel2⟩
      case measure => simp [intOf]; omega
    · have hjn : j = n := by omega
      subst hjn
      go_wp2
      go_ret
      exact ⟨rfl, hbel⟩
theorem RowsZ.grownC {lo : Nat} {W W' : World} {v : Value} {Z : ZL} (h : RowsZ lo W v Z) {u : Value} {b e m n : Nat} {xs : List Value} (ho : W.ownsRow b e m u n xs) (hg : W.grownBy W' u.ownBlock) (h1 : e ≠ 24) (h2 : e ≠ 3) : RowsZ lo W' v Z :=
  ⟨h.out.kept hg (rows_far h.out ho (fun e => h1 e.symm)), ⟨fun p hp => (h.inn.row p hp).kept hg (rows_far (h.inn.row p hp) ho (fun e => h2 e.symm)), h.inn.far⟩⟩
theorem RowsZ.low {lo B : Nat} {W W' : World} {v : Value} {Z : ZL} (h : RowsZ lo W v Z) (hb : Below B W W') (ho : ∀ g, v.ownBlock = some g → g < B) (hi : ∀ p ∈ Z, ∀ g, p.1.ownBlock = some g → g < B) : RowsZ lo W' v Z := by
  have key : ∀ {e n : Nat} {u : Value} {xs : List Value}, W.ownsRow lo e 1 u n xs → (∀ g, u.ownBlock = some g → g < B) → W'.ownsRow lo e 1 u n xs := by
    intro e n u xs hr hl
    refine ⟨hr.1, ?_⟩
    rcases hr.2 with h1 | ⟨g, cap, cur, rfl, hbg, hc, rest⟩
    · exact Or.inl h1
    · exact Or.inr ⟨g, cap, cur, rfl, hbg, by rw [hb.block g (hl g rfl)]; exact hc, rest⟩
  exact ⟨key h.out ho, ⟨fun p hp => key (h.inn.row p hp) (hi p hp), h.inn.far⟩⟩
theorem soZ_len {m : Int} {l : List ClueV} {Z : ZL} (h : Z.map Prod.snd = soL m l) : Z.length ≤ 100000 ∧ ∀ p ∈ Z, p.2.length ≤ 100 := by
  have hl : Z.length = (soL m l).length := by rw [← h, List.length_map]
  unfold soL at h hl
  split at h
  · next hp =>
    rw [if_pos hp] at hl
    have hm := miB_yes (pzB_yes hp).1
    have := solL_len hm.2 l
    refine ⟨by omega, fun p hp2 => ?_⟩
    have h2 : p.2 ∈ solL m l := by rw [← h]; exact List.mem_map_of_mem hp2
    have := ris_len9 hm.2 (solL_ris hm.1 h2)
    omega
  · next hp =>
    rw [if_neg hp] at hl
    have : Z = [] := List.eq_nil_of_length_eq_zero hl
    subst this
    exact ⟨by simp, by simp⟩
end Go.Proofs.Ytiafmojmanhdoaa
