/- Takings of fuel: the program's table. -/
import Derived.Test.YtoienhjbhpdehaaTakM
import Derived.Test.YtoienhjbhpdehaaRep
import Derived.Test.YtoienhjbhpdehaaRingA
import Derived.Test.YtoienhjbhpdehaaOrd
import Derived.Test.YtoienhjbhpdehaaApp
import Derived.IntWalk
namespace Go.Proofs.Ytoienhjbhpdehaa
open Go.ChangeShapes Go.WideShapes Go.ChangeAt Go.RowKit Go.Joins
set_option maxRecDepth 100000
set_option linter.unusedVariables false
set_option linter.unusedSimpArgs false

/-- Where well number i lies (behind i wells). -/
def tkAt (l : List StaV) : Nat → Int
  | 0 => 0
  | i + 1 => tkAt l i + (l.getD i default).b
def tkR (l : List StaV) (i : Nat) : List (Int × Int) := (List.range i).map (fun j => (tkAt l (j + 1), (l.getD j default).a))
theorem tkR_succ (l : List StaV) (i : Nat) : tkR l (i + 1) = tkR l i ++ [(tkAt l (i + 1), (l.getD i default).a)] := by
  simp [tkR, List.range_succ]
theorem tkR_len (l : List StaV) (i : Nat) : (tkR l i).length = i := by simp [tkR]
/-- All stations are valid. -/
structure TkOk (l : List StaV) : Prop where
  hn : l.length ≤ 20
  hs : ∀ p ∈ l, 0 ≤ p.a ∧ p.a ≤ 1000 ∧ 0 ≤ p.b ∧ p.b ≤ 1000
theorem tkOk_of {l : List StaV} (h : lstB 20 l = true) : TkOk l := by
  simp only [lstB, Bool.and_eq_true, decide_eq_true_eq, List.all_eq_true] at h
  refine ⟨by omega, fun p hp => ?_⟩
  have := h.2 p hp
  simp only [lstP, staB, inB, Bool.and_eq_true, decide_eq_true_eq] at this
  omega
theorem tkOk_get {l : List StaV} (h : TkOk l) (i : Nat) : 0 ≤ (l.getD i default).a ∧ (l.getD i default).a ≤ 1000 ∧ 0 ≤ (l.getD i default).b ∧ (l.getD i default).b ≤ 1000 := by
  by_cases hi : i < l.length
  · have e : l.getD i default = l[i] := by simp [List.getD, hi]
    rw [e]; exact h.hs _ (List.getElem_mem hi)
  · have e : l.getD i default = default := by simp [List.getD, hi]
    rw [e]
    show 0 ≤ (0 : Int) ∧ (0 : Int) ≤ 1000 ∧ 0 ≤ (0 : Int) ∧ (0 : Int) ≤ 1000
    omega
theorem tkAt_bd {l : List StaV} (h : TkOk l) : ∀ i : Nat, 0 ≤ tkAt l i ∧ tkAt l i ≤ 1000 * (i : Int)
  | 0 => by simp [tkAt]
  | i + 1 => by
    have := tkAt_bd h i
    have := tkOk_get h i
    simp only [tkAt]
    omega
theorem tkAt_mono {l : List StaV} (h : TkOk l) (i : Nat) : ∀ d : Nat, tkAt l i ≤ tkAt l (i + d)
  | 0 => Int.le_refl _
  | d + 1 => by
    have h1 := tkAt_mono h i d
    have h2 := tkOk_get h (i + d)
    have e : tkAt l (i + (d + 1)) = tkAt l (i + d) + (l.getD (i + d) default).b := rfl
    rw [e]
    omega
theorem tkR_low {l : List StaV} (h : TkOk l) (i : Nat) : ∀ w ∈ tkR l i, w.1 ≤ tkAt l (i + 1) ∧ 0 ≤ w.2 := by
  intro w hw
  simp only [tkR, List.mem_map, List.mem_range] at hw
  obtain ⟨j, hj, rfl⟩ := hw
  refine ⟨?_, (tkOk_get h j).1⟩
  have := tkAt_mono h (j + 1) (i - j)
  rwa [show j + 1 + (i - j) = i + 1 by omega] at this

/-- A row of ints by their function. -/
def rowF (n : Nat) (C : Nat → Int) : List Value := (List.range n).map (fun k => .int .i64 (C k))
theorem rowF_len (n : Nat) (C : Nat → Int) : (rowF n C).length = n := by simp [rowF]
theorem rowF_get (n : Nat) (C : Nat → Int) (k : Nat) (hk : k < n) : (rowF n C)[k]? = some (.int .i64 (C k)) := by simp [rowF, hk]
theorem rowF_ext (n : Nat) (C D : Nat → Int) (h : ∀ k, k < n → C k = D k) : rowF n C = rowF n D := by
  unfold rowF
  apply List.map_congr_left
  intro k hk
  rw [h k (List.mem_range.1 hk)]
theorem rowF_set (n : Nat) (C : Nat → Int) (j : Nat) (x : Int) : (rowF n C).set j (.int .i64 x) = rowF n (fun k => if k = j then x else C k) := by
  apply List.ext_getElem?
  intro k
  by_cases hk : k < n
  · rw [rowF_get n _ k hk]
    by_cases e : k = j
    · subst e
      rw [List.getElem?_set_self (by rw [rowF_len]; exact hk)]; simp
    · rw [List.getElem?_set_ne (by omega), rowF_get n C k hk, if_neg e]
  · rw [List.getElem?_eq_none (by rw [List.length_set, rowF_len]; omega), List.getElem?_eq_none (by rw [rowF_len]; omega)]
theorem rowF_rep (n : Nat) (x : Int) : List.replicate n (.int .i64 x) = rowF n (fun _ => x) := by
  unfold rowF
  rw [List.map_const', List.length_range]
/-- The table while a well has its turn: entries behind number s have had it. -/
def tkMix (p f : Int) (i : Nat) (T : Nat → Int) (s : Nat) (k : Nat) : Int := if k ≤ s then T k else tkNext p f i T k
theorem tkMix_start (p f : Int) (i : Nat) (T : Nat → Int) (k : Nat) : tkMix p f i T (i + 1) k = T k := by
  unfold tkMix
  split
  · rfl
  · cases k with
    | zero => rfl
    | succ k => simp only [tkNext]; rw [if_neg (by omega)]
theorem tkMix_end (p f : Int) (i : Nat) (T : Nat → Int) (k : Nat) : tkMix p f i T 0 k = tkNext p f i T k := by
  unfold tkMix
  split
  · rename_i h
    obtain rfl : k = 0 := by omega
    rfl
  · rfl
theorem tkMix_yes (p f : Int) (i : Nat) (T : Nat → Int) (s : Nat) (hs : s ≤ i) (h : p ≤ T s) (k : Nat) : tkMix p f i T s k = if k = s + 1 then max (T (s + 1)) (T s + f) else tkMix p f i T (s + 1) k := by
  unfold tkMix
  by_cases h1 : k = s + 1
  · subst h1
    rw [if_neg (by omega), if_pos rfl]
    simp only [tkNext]; rw [if_pos ⟨hs, h⟩]
  · rw [if_neg h1]
    by_cases h2 : k ≤ s
    · rw [if_pos h2, if_pos (by omega)]
    · rw [if_neg h2, if_neg (by omega)]
theorem tkMix_no (p f : Int) (i : Nat) (T : Nat → Int) (s : Nat) (h : ¬ p ≤ T s) (k : Nat) : tkMix p f i T s k = tkMix p f i T (s + 1) k := by
  unfold tkMix
  by_cases h1 : k = s + 1
  · subst h1
    rw [if_neg (by omega), if_pos (by omega)]
    simp only [tkNext]; rw [if_neg (by omega)]
  · by_cases h2 : k ≤ s
    · rw [if_pos h2, if_pos (by omega)]
    · rw [if_neg h2, if_neg (by omega)]
def TkBd (i : Nat) (T : Nat → Int) : Prop := ∀ k, 0 ≤ T k ∧ T k ≤ 100000 + 1000 * (i : Int)
theorem tkBd_next {p f : Int} {i j : Nat} {T : Nat → Int} (h : TkBd i T) (h0 : 0 ≤ f) (h1 : f ≤ 1000) : TkBd (i + 1) (tkNext p f j T) := by
  intro k
  cases k with
  | zero => have := h 0; simp only [tkNext]; omega
  | succ k =>
    have := h (k + 1)
    have := h k
    simp only [tkNext]
    split <;> omega

set_option maxHeartbeats 6400000 in
theorem reaches_impl (fuel : Int) (h0 : 0 ≤ fuel) (h1 : fuel ≤ 100000) (v : Value) (l : List StaV) (hk : TkOk l) (w : World) (h : RowG 2 fSta w v l) :
    Calls Try.prog 15 #[.int .i64 fuel, v] w fun e w' => ∃ (g c : Nat) (T : Nat → Int), e = .returned (.slice (some ⟨g, 0, none⟩) (l.length + 1) c) ∧ w'.ownsRow w.heap.size 3 1 (.slice (some ⟨g, 0, none⟩) (l.length + 1) c) (l.length + 1) (rowF (l.length + 1) T) ∧ Hid (TabOf fuel (tkR l l.length) T) ∧ Below w.heap.size w w' := by
  have hn := hk.hn
  have HR := Lib.hid (fun (ad : Addr) (cp : Nat) (W : World) (hx : W.cell? ad = some (.int .i64 fuel)) => (by
    have h := rep_ints fuel (l.length + 1) (by omega) ad cp W hx
    rw [show ((l.length + 1 : Nat) : Int) = (l.length : Int) + 1 by omega] at h
    exact h : Calls Try.prog 21 #[.slice (some ad) 1 cp, .int .i64 ((l.length : Int) + 1)] W fun en w' => ∃ v, en = .returned v ∧ w'.ownsRow W.heap.size 3 1 v (l.length + 1) (List.replicate (l.length + 1) (.int .i64 fuel)) ∧ Below W.heap.size W w'))
  obtain ⟨a0, c0, hv0, hl1, hl2⟩ := row_shape h
  subst hv0
  have HRow := Lib.hid h
  clear h
  have HAt : Hid (∀ i : Nat, tkAt l (i + 1) = tkAt l i + (l.getD i default).b) := Lib.hid (fun i => rfl)
  have HTk := Lib.hid (fun i => tkR_succ l i)
  have HBd := Lib.hid (fun i => tkAt_bd hk i)
  have HGet := Lib.hid (fun i => tkOk_get hk i)
  have HLow := Lib.hid (fun i => tkR_low hk i)
  have HLn := Lib.hid (fun i => tkR_len l i)
  have hst0 : Hid (TabOf fuel (tkR l 0) (fun _ => fuel)) := Lib.hid (tab_start fuel)
  have hat0 : tkAt l 0 = 0 := rfl
  have HCell := Lib.hid (fun (i : Nat) (hi : i < l.length) (W : World) (hB : Below w.heap.size w W) => (by
    rcases rowG_below HRow.out hB with ⟨e, el⟩ | ⟨a, cap, e, hL⟩
    · rw [el] at hi; exact absurd hi (Nat.not_lt_zero _)
    · injection e with e1 e2 e3
      have hp : l[i]? = some (l.getD i default) := by simp [List.getD, hi]
      have hc := hL.hcell i _ hp
      have e0 := hc 0 (l.getD i default).a rfl
      rw [Nat.add_zero] at e0
      have e1' : W.cell? ⟨(a.add (i * 2)).block, (a.add (i * 2)).off + 1, none⟩ = some (.int .i64 (l.getD i default).b) := by
        have h := hc 1 (l.getD i default).b rfl
        rw [← Deep.add_add] at h
        exact h
      exact ⟨a, e1, e0, e1'⟩ : ∃ a : Addr, a0 = some a ∧ W.cell? (a.add (i * 2)) = some (.int .i64 (l.getD i default).a) ∧ W.cell? ⟨(a.add (i * 2)).block, (a.add (i * 2)).off + 1, none⟩ = some (.int .i64 (l.getD i default).b)))
  generalize l.length = n at *
  generalize tkR l = R at *
  generalize hA : tkAt l = A at *
  clear hA
  go_enter Try.func15, Try.ntmps15
  go_wp2_with fail
  refine (HR.out _ _ _ (by simp [go_sem])).mono ?_
  rintro e w1 ⟨u, rfl, hown, hb1⟩
  have hbel1 : Below w.heap.size w w1 := by (repeat (first | with_reducible exact Below.refl _ _ | with_reducible assumption | with_reducible refine balloc ?_ _ | with_reducible refine bdrew ?_ | with_reducible refine below_drewN ?_ _ | with_reducible refine bset ?_ ?_ _ | with_reducible exact Nat.le_refl _ | with_reducible refine bsize ?_ | (dsimp only; refine Nat.le_trans ?_ (Nat.le_add_right _ _)) | with_reducible refine Nat.le_trans ?_ (Nat.le_add_right _ _) | (with_reducible refine bstep ?_ (by assumption))))
  have hown1 : w1.ownsRow w.heap.size 3 1 u (n + 1) (rowF (n + 1) (fun _ => fuel)) := by
    rw [← rowF_rep]; exact own_mono hown (by simp)
  clear hown hb1 HR
  obtain ⟨g, c, hu, hgw⟩ : ∃ g c, u = .slice (some ⟨g, 0, none⟩) (n + 1) c ∧ w.heap.size ≤ g := by
    rcases hown1.2 with ⟨_, hz⟩ | ⟨g, c, cur, hu, hg, _⟩
    · omega
    · exact ⟨g, c, hu, hg⟩
  subst hu
  go_wp2
  go_loopw [6, 18] (fun x y wr => ∃ (i : Nat) (T : Nat → Int), i ≤ n ∧ x = .int .i64 (A i) ∧ y = .int .i64 i ∧ wr.ownsRow w.heap.size 3 1 (.slice (some ⟨g, 0, none⟩) (n + 1) c) (n + 1) (rowF (n + 1) T) ∧ Hid (TabOf fuel (R i) T) ∧ Hid (TkBd i T) ∧ Below w.heap.size w wr) (fun _ y _ => n - (intOf y).toNat)
  case atStart => exact ⟨0, fun _ => fuel, Nat.zero_le _, by rw [hat0], rfl, hown1, hst0, Lib.hid (fun k => by show 0 ≤ fuel ∧ fuel ≤ 100000 + 1000 * ((0 : Nat) : Int); omega), hbel1⟩
  case round =>
    obtain ⟨i, T, hi, rfl, rfl, hown2, hT, hTb, hbel2⟩ := hrel
    rename World => wo
    clear hown1 hbel1 hst0 hat0
    by_cases hlt : i < n
    · obtain ⟨a, rfl, e0, e1⟩ := HCell.out i hlt wo hbel2
      have hA := Lib.hid (HAt.out i)
      have hAb := HBd.out i
      have hG := HGet.out i
      have hTn := Lib.hid (HTk.out i)
      have hLw := Lib.hid (HLow.out i)
      have hLn := Lib.hid (HLn.out i)
      generalize (l.getD i default).a = f at *
      generalize (l.getD i default).b = b at *
      generalize hp : A (i + 1) = p at *
      replace hp := Lib.hid hp
      have hpe := hA.out
      clear hA
      have hpb : 0 ≤ p ∧ p ≤ 21000 := by omega
      generalize A i = at0 at *
      subst hpe
      have hnx := Lib.hid (tab_next fuel (at0 + b) f hG.1 (R i) hLw.out T hT.out)
      have hnxb := Lib.hid (tkBd_next (p := at0 + b) (j := i) hTb.out hG.1 hG.2.1)
      have hmx0 := Lib.hid (fun k => tkMix_start (at0 + b) f i T k)
      have hmxe := Lib.hid (fun k => tkMix_end (at0 + b) f i T k)
      have hmxy := Lib.hid (fun (s : Nat) (hs : s ≤ i) (hpT : at0 + b ≤ T s) k => tkMix_yes (at0 + b) f i T s hs hpT k)
      have hmxn := Lib.hid (fun (s : Nat) (hpT : ¬ at0 + b ≤ T s) k => tkMix_no (at0 + b) f i T s hpT k)
      have hmxl : Hid (∀ s k : Nat, k ≤ s → tkMix (at0 + b) f i T s k = T k) := Lib.hid (fun s k h => by unfold tkMix; rw [if_pos h])
      generalize hM : tkMix (at0 + b) f i T = M at *
      clear hM
      have hsz2 := hbel2.size
      have hgl : g < wo.heap.size := (hown2.lt g rfl).2
      go_wp2
      go_loopw [9] (fun x wr => ∃ s : Nat, s ≤ i + 1 ∧ x = .int .i64 ((s : Int) - 1) ∧ wr.ownsRow w.heap.size 3 1 (.slice (some ⟨g, 0, none⟩) (n + 1) c) (n + 1) (rowF (n + 1) (M s)) ∧ wr.cell? ⟨wo.heap.size, 0, none⟩ = some (.int .i64 f) ∧ wo.heap.size < wr.heap.size ∧ Below w.heap.size w wr) (fun x _ => (intOf x + 1).toNat)
      case atStart =>
        refine ⟨i + 1, Nat.le_refl _, by go_num, ?_, by simp [go_sem], by simp, by (repeat (first | with_reducible exact Below.refl _ _ | with_reducible assumption | with_reducible refine balloc ?_ _ | with_reducible refine bdrew ?_ | with_reducible refine below_drewN ?_ _ | with_reducible refine bset ?_ ?_ _ | with_reducible exact Nat.le_refl _ | with_reducible refine bsize ?_ | (dsimp only; refine Nat.le_trans ?_ (Nat.le_add_right _ _)) | with_reducible refine Nat.le_trans ?_ (Nat.le_add_right _ _) | (with_reducible refine bstep ?_ (by assumption))))⟩
        rw [rowF_ext (n + 1) (M (i + 1)) T (fun k _ => hmx0.out k)]
        first | exact hown2 | exact (hown2.alloc _) | (refine own_set (own_set (own_alloc hown2 _) ?_ _) ?_ _ <;> (simp; omega))
      case round =>
        obtain ⟨s, hs, rfl, hown3, hbx, hbz, hbel3⟩ := hrel
        by_cases h2 : 1 ≤ s
        · obtain ⟨q, rfl⟩ : ∃ q, s = q + 1 := ⟨s - 1, by omega⟩
          have eq1 : (((q + 1 : Nat) : Int) - 1) = (q : Int) := by omega
          rw [eq1]
          have hc1 : wr.cell? ⟨g, q, none⟩ = some (.int .i64 (T q)) := by
            rw [hown3.cellAt q (by omega), rowF_get _ _ _ (by omega), hmxl.out (q + 1) q (by omega)]
          have hc2 : wr.cell? ⟨g, q + 1, none⟩ = some (.int .i64 (T (q + 1))) := by
            rw [hown3.cellAt (q + 1) (by omega), rowF_get _ _ _ (by omega), hmxl.out (q + 1) (q + 1) (by omega)]
          have hb1 := hTb.out q
          have hb2 := hTb.out (q + 1)
          have hqi : q ≤ i := by omega
          have hgr : g < wr.heap.size := (hown3.lt g rfl).2
          have f2 := hown3.frozenAt (q + 1)
          have hsz3 := hbel3.size
          by_cases hpT : at0 + b ≤ T q
          · obtain ⟨st0, gr0⟩ := hown3.stored (q + 1) (.int .i64 (if T (q + 1) < T q + f then T q + f else T (q + 1)))
            have hmv : max (T (q + 1)) (T q + f) = if T (q + 1) < T q + f then T q + f else T (q + 1) := by
              split <;> omega
            have hrow : rowF (n + 1) (M q) = (rowF (n + 1) (M (q + 1))).set (q + 1) (.int .i64 (if T (q + 1) < T q + f then T q + f else T (q + 1))) := by
              rw [rowF_set]; exact rowF_ext _ _ _ (fun k _ => by rw [hmxy.out q hqi hpT k, hmv])
            clear hmv
            rw [← hrow] at st0
            clear hrow
            generalize T q = x at *
            generalize T (q + 1) = y at *
            have wq := IntWalk.i64_in (x + f) (by omega)
            have wq2 := IntWalk.i64_in ((q : Int) + 1) (by omega)
            have i1 : (0 : Int) ≤ (q : Int) ∧ (q : Int) < (n : Int) + 1 := by omega
            have i2 : (0 : Int) ≤ (q : Int) + 1 ∧ (q : Int) + 1 < (n : Int) + 1 := by omega
            go_upto_region 11 with fail
            refine wp_region_noPanic ?_
            refine wp_region_T 17 (fun W => W.cell? ⟨g, q, none⟩ = some (.int .i64 x) ∧ W.cell? ⟨g, q + 1, none⟩ = some (.int .i64 y) ∧ W.cell? ⟨wo.heap.size, 0, none⟩ = some (.int .i64 f)) (by kernel_rfl) (by simp [go_sem, hc1, hc2, hbx]) (fun hHeld => ?_)
            (refine wpAnyT_take (i := 0) (v := ?_) (by rfl) (by kernel_rfl) (by kernel_rfl) (by kernel_rfl) (by kernel_rfl) (fun _ _ _ h => h) (Or.inl ⟨by rfl, ?_⟩) (by assumption) ?_; rotate_left; (focus (intro w hSw; (try dsimp only at hSw); go_simp; (try with_reducible rfl))); (try simp only [Act.put, List.setIfInBounds_toArray, List.set_cons_zero, List.set_cons_succ]))
            (refine wpAnyT_take (i := 1) (v := ?_) (by rfl) (by kernel_rfl) (by kernel_rfl) (by kernel_rfl) (by kernel_rfl) (fun _ _ _ h => h) (Or.inl ⟨by rfl, ?_⟩) (by assumption) ?_; rotate_left; (focus (intro w hSw; (try dsimp only at hSw); go_simp; (try with_reducible rfl))); (try simp only [Act.put, List.setIfInBounds_toArray, List.set_cons_zero, List.set_cons_succ]))
            (refine wpAnyT_take (i := 2) (v := ?_) (by rfl) (by kernel_rfl) (by kernel_rfl) (by kernel_rfl) (by kernel_rfl) (fun _ _ _ h => h) (Or.inl ⟨by rfl, ?_⟩) (by assumption) ?_; rotate_left; (focus (intro w hSw; (try dsimp only at hSw); go_simp; (try with_reducible rfl))); (try simp only [Act.put, List.setIfInBounds_toArray, List.set_cons_zero, List.set_cons_succ]))
            (refine wpAnyT_take (i := 3) (v := ?_) (by rfl) (by kernel_rfl) (by kernel_rfl) (by kernel_rfl) (by kernel_rfl) (fun _ _ _ h => h) (Or.inl ⟨by rfl, ?_⟩) (by assumption) ?_; rotate_left; (focus (intro w hSw; (try dsimp only at hSw); go_simp; (try with_reducible rfl))); (try simp only [Act.put, List.setIfInBounds_toArray, List.set_cons_zero, List.set_cons_succ]))
            (refine wpAnyT_take (i := 4) (v := ?_) (by rfl) (by kernel_rfl) (by kernel_rfl) (by kernel_rfl) (by kernel_rfl) (fun _ _ _ h => h) (Or.inl ⟨by rfl, ?_⟩) (by assumption) ?_; rotate_left; (focus (intro w hSw; (try dsimp only at hSw); go_simp; (try with_reducible rfl))); (try simp only [Act.put, List.setIfInBounds_toArray, List.set_cons_zero, List.set_cons_succ]))
            (refine wpAnyT_take (i := 5) (v := ?_) (by rfl) (by kernel_rfl) (by kernel_rfl) (by kernel_rfl) (by kernel_rfl) (fun _ _ _ h => h) (Or.inl ⟨by rfl, ?_⟩) (by assumption) ?_; rotate_left; (focus (intro w hSw; (try dsimp only at hSw); go_simp; (try with_reducible rfl))); (try simp only [Act.put, List.setIfInBounds_toArray, List.set_cons_zero, List.set_cons_succ]))
            (refine wpAnyT_take (i := 6) (v := ?_) (by rfl) (by kernel_rfl) (by kernel_rfl) (by kernel_rfl) (by kernel_rfl) (fun _ _ _ h => h) (Or.inl ⟨by rfl, ?_⟩) (by assumption) ?_; rotate_left; (focus (intro w hSw; (try dsimp only at hSw); go_simp; (try with_reducible rfl))); (try simp only [Act.put, List.setIfInBounds_toArray, List.set_cons_zero, List.set_cons_succ]))
            (refine wpAnyT_take (i := 7) (v := ?_) (by rfl) (by kernel_rfl) (by kernel_rfl) (by kernel_rfl) (by kernel_rfl) (fun _ _ _ h => h) (Or.inl ⟨by rfl, ?_⟩) (by assumption) ?_; rotate_left; (focus (intro w hSw; (try dsimp only at hSw); go_simp; (try with_reducible rfl))); (try simp only [Act.put, List.setIfInBounds_toArray, List.set_cons_zero, List.set_cons_succ]))
            (refine wpAnyT_take (i := 8) (v := ?_) (by rfl) (by kernel_rfl) (by kernel_rfl) (by kernel_rfl) (by kernel_rfl) (fun _ _ _ h => h) (Or.inl ⟨by rfl, ?_⟩) (by assumption) ?_; rotate_left; (focus (intro w hSw; (try dsimp only at hSw); go_simp; (try with_reducible rfl))); (try simp only [Act.put, List.setIfInBounds_toArray, List.set_cons_zero, List.set_cons_succ]))
            (refine wpAnyT_take (i := 9) (v := ?_) (by rfl) (by kernel_rfl) (by kernel_rfl) (by kernel_rfl) (by kernel_rfl) (fun _ _ _ h => h) (Or.inl ⟨by rfl, ?_⟩) (by assumption) ?_; rotate_left; (focus (intro w hSw; (try dsimp only at hSw); go_simp; (try with_reducible rfl))); (try simp only [Act.put, List.setIfInBounds_toArray, List.set_cons_zero, List.set_cons_succ]))
            (refine wpAnyT_take (i := 10) (v := ?_) (by rfl) (by kernel_rfl) (by kernel_rfl) (by kernel_rfl) (by kernel_rfl) (fun _ _ _ h => h) (Or.inl ⟨by rfl, ?_⟩) (by assumption) ?_; rotate_left; (focus (intro w hSw; (try dsimp only at hSw); go_simp; (try with_reducible rfl))); (try simp only [Act.put, List.setIfInBounds_toArray, List.set_cons_zero, List.set_cons_succ]))
            (refine wpAnyT_take (i := 11) (v := ?_) (by rfl) (by kernel_rfl) (by kernel_rfl) (by kernel_rfl) (by kernel_rfl) (fun _ _ _ h => h) (Or.inl ⟨by rfl, ?_⟩) (by assumption) ?_; rotate_left; (focus (intro w hSw; (try dsimp only at hSw); go_simp; (try with_reducible rfl))); (try simp only [Act.put, List.setIfInBounds_toArray, List.set_cons_zero, List.set_cons_succ]))
            (refine wpAnyT_take (i := 12) (v := ?_) (by rfl) (by kernel_rfl) (by kernel_rfl) (by kernel_rfl) (by kernel_rfl) (fun _ _ _ h => h) (Or.inl ⟨by rfl, ?_⟩) (by assumption) ?_; rotate_left; (focus (intro w hSw; (try dsimp only at hSw); go_simp; (try with_reducible rfl))); (try simp only [Act.put, List.setIfInBounds_toArray, List.set_cons_zero, List.set_cons_succ]))
            (refine wpAnyT_take (i := 13) (v := ?_) (by rfl) (by kernel_rfl) (by kernel_rfl) (by kernel_rfl) (by kernel_rfl) (fun _ _ _ h => h) (Or.inl ⟨by rfl, ?_⟩) (by assumption) ?_; rotate_left; (focus (intro w hSw; (try dsimp only at hSw); go_simp; (try with_reducible rfl))); (try simp only [Act.put, List.setIfInBounds_toArray, List.set_cons_zero, List.set_cons_succ]))
            (refine wpAnyT_take (i := 14) (v := ?_) (by rfl) (by kernel_rfl) (by kernel_rfl) (by kernel_rfl) (by kernel_rfl) (fun _ _ _ h => h) (Or.inl ⟨by rfl, ?_⟩) (by assumption) ?_; rotate_left; (focus (intro w hSw; (try dsimp only at hSw); go_simp; (try with_reducible rfl))); (try simp only [Act.put, List.setIfInBounds_toArray, List.set_cons_zero, List.set_cons_succ]))
            (refine wpAnyT_take (i := 15) (v := ?_) (by rfl) (by kernel_rfl) (by kernel_rfl) (by kernel_rfl) (by kernel_rfl) (fun _ _ _ h => h) (Or.inl ⟨by rfl, ?_⟩) (by assumption) ?_; rotate_left; (focus (intro w hSw; (try dsimp only at hSw); go_simp; (try with_reducible rfl))); (try simp only [Act.put, List.setIfInBounds_toArray, List.set_cons_zero, List.set_cons_succ]))
            (refine wpAnyT_take (i := 16) (v := ?_) (by rfl) (by kernel_rfl) (by kernel_rfl) (by kernel_rfl) (by kernel_rfl) (fun _ _ _ h => h) (Or.inl ⟨by rfl, ?_⟩) (by assumption) ?_; rotate_left; (focus (intro w hSw; (try dsimp only at hSw); go_simp; (try with_reducible rfl))); (try simp only [Act.put, List.setIfInBounds_toArray, List.set_cons_zero, List.set_cons_succ]))
            refine wpAnyT_one (i := 17) (by kernel_rfl) (by rfl) (fun K hK => ?_)
            go_simp
            refine hK.out _ _ (Or.inl rfl) (fun _ => ?_)
            refine wpAnyT_done (by kernel_rfl) ?_ _
            refine NoPanic.normal ?_
            generalize (if y < x + f then x + f else y) = z at *
            have hbel4 : Below w.heap.size w (wr.setCell ⟨g, q + 1, none⟩ (.int .i64 z)).drew := by
              refine bdrew (bset hbel3 ?_ _)
              exact hgw
            have hbx4 : (wr.setCell ⟨g, q + 1, none⟩ (.int .i64 z)).drew.cell? ⟨wo.heap.size, 0, none⟩ = some (.int .i64 f) := by
              have hne : ¬ (wo.heap.size = g) := by omega
              simp [go_sem, hbx, hne]
            have st4 := own_drew st0
            go_wp2
            go_roundw
            case rel => exact ⟨q, by omega, by go_num, st4, hbx4, by first | (simp; done) | (simp; omega), hbel4⟩
            case measure => first | (simp [intOf]; done) | (simp [intOf]; omega)
          · have hrow : rowF (n + 1) (M q) = rowF (n + 1) (M (q + 1)) := rowF_ext _ _ _ (fun k _ => hmxn.out q (by first | exact hpT | exact Int.not_le.1 hpT) k)
            rw [← hrow] at hown3
            generalize T q = x at *
            have hpT2 : ¬ (at0 + b ≤ x) := by omega
            go_wp2
            all_goals first | (exfalso; omega) | skip
            all_goals
              go_roundw
              case rel => exact ⟨q, by omega, by go_num, hown3, hbx, hbz, hbel3⟩
              case measure => first | (simp [intOf]; done) | (simp [intOf]; omega)
        · have e0 : s = 0 := by omega
          subst e0
          go_wp2
          go_roundw
          case rel =>
            refine ⟨i + 1, tkNext (at0 + b) f i T, by omega, by rw [hp.out], by go_num, ?_, ?_, hnxb, hbel3⟩
            · rw [rowF_ext (n + 1) (tkNext (at0 + b) f i T) (M 0) (fun k _ => (hmxe.out k).symm)]; exact hown3
            · have h8 := hnx.out
              rw [hLn.out] at h8
              rw [hTn.out]; exact Lib.hid h8
          case measure => first | (simp [intOf]; done) | (simp [intOf]; omega)
    · have e0 : i = n := by omega
      subst e0
      go_wp2
      go_ret
      exact ⟨g, c, T, rfl, hown2, hT, hbel2⟩

/-- The first number from k on, of m numbers, at which g is enough. -/
def ftF (g : Nat → Int) (way : Int) : Nat → Nat → Option Nat
  | _, 0 => none
  | k, m + 1 => if way ≤ g k then some k else ftF g way (k + 1) m
theorem ftF_some (g : Nat → Int) (way : Int) (j : Nat) (h : way ≤ g j) : ∀ (m k : Nat), k ≤ j → j < k + m → (∀ i, i < j → g i < way) → ftF g way k m = some j
  | 0, k, h1, h2, _ => by omega
  | m + 1, k, h1, h2, h3 => by
    unfold ftF
    by_cases e : k = j
    · subst e; rw [if_pos h]
    · have := h3 k (by omega)
      rw [if_neg (by omega)]
      exact ftF_some g way j h m (k + 1) (by omega) (by omega) h3
theorem ftF_none (g : Nat → Int) (way : Int) : ∀ (m k : Nat), (∀ i, i < k + m → g i < way) → ftF g way k m = none
  | 0, k, _ => rfl
  | m + 1, k, h => by
    unfold ftF
    have := h k (by omega)
    rw [if_neg (by omega)]
    exact ftF_none g way m (k + 1) (fun i hi => h i (by omega))
def ftOk (fuel way : Int) (l : List StaV) : Bool := inB fuel 0 100000 && inB way 0 100000 && lstB 20 l
def ftO (fuel way : Int) (l : List StaV) : Option Nat := ftF (tkG fuel [] (tkR l l.length)) way 0 (l.length + 1)
def ftB (fuel way : Int) (l : List StaV) : Bool := ftOk fuel way l && (ftO fuel way l).isSome
def ftV (fuel way : Int) (l : List StaV) : Int := if ftB fuel way l = true then (((ftO fuel way l).getD 0 : Nat) : Int) else 0
theorem ft_no {fuel way : Int} {l : List StaV} (h : ftOk fuel way l = false) : ftV fuel way l = 0 ∧ ftB fuel way l = false := by
  have e : ftB fuel way l = false := by simp [ftB, h]
  exact ⟨by simp [ftV, e], e⟩
theorem ft_hit {fuel way : Int} {l : List StaV} (h : ftOk fuel way l = true) {k : Nat} (hk : k ≤ l.length) (h1 : way ≤ tkG fuel [] (tkR l l.length) k) (h2 : ∀ j, j < k → tkG fuel [] (tkR l l.length) j < way) : ftV fuel way l = k ∧ ftB fuel way l = true := by
  have e : ftO fuel way l = some k := ftF_some _ way k h1 _ 0 (Nat.zero_le _) (by omega) h2
  have e2 : ftB fuel way l = true := by simp [ftB, h, e]
  exact ⟨by simp [ftV, e2, e], e2⟩
theorem ft_none {fuel way : Int} {l : List StaV} (h2 : ∀ j, j ≤ l.length → tkG fuel [] (tkR l l.length) j < way) : ftV fuel way l = 0 ∧ ftB fuel way l = false := by
  have e : ftO fuel way l = none := ftF_none _ way _ 0 (fun i hi => h2 i (by omega))
  have e2 : ftB fuel way l = false := by simp [ftB, e]
  exact ⟨by simp [ftV, e2], e2⟩

set_option maxHeartbeats 3200000 in
theorem takings_impl (fuel way : Int) (v : Value) (l : List StaV) (w : World) (h : RowG 2 fSta w v l) :
    Calls Try.prog 7 #[.int .i64 fuel, .int .i64 way, v] w fun e w' => e = .returned (.tuple #[.int .i64 (ftV fuel way l), .bool (ftB fuel way l)]) ∧ Below w.heap.size w w' := by
  have HL := Lib.hid (fun W (hB : Below w.heap.size w W) => lst_is 20 v l W (rowG_below h hB))
  obtain ⟨a0, c0, hv0, hl1, hl2⟩ := row_shape h
  cases h1 : inB fuel 0 100000
  · have e := ft_no (fuel := fuel) (way := way) (l := l) (by simp [ftOk, h1])
    rw [e.1, e.2]
    subst hv0
    clear e h
    go_enter Try.func7, Try.ntmps7
    go_wp2_with (go_at_call 12; refine (in_impl _ _ _ _).mono ?_; rintro e w1 ⟨rfl, rfl⟩; rw [h1])
    all_goals first | (exfalso; rename_i hx; simp at hx; omega) | (refine bodyPost_ret (v := .tuple #[.int .i64 0, .bool false]) (by simp only [results, Try.results7]; go_simp) rfl ⟨rfl, ?_⟩; first | rfl | ((repeat (first | with_reducible exact Below.refl _ _ | with_reducible assumption | with_reducible refine balloc ?_ _ | with_reducible refine bdrew ?_ | with_reducible refine below_drewN ?_ _ | with_reducible refine bset ?_ ?_ _ | with_reducible exact Nat.le_refl _ | with_reducible refine bsize ?_ | (dsimp only; refine Nat.le_trans ?_ (Nat.le_add_right _ _)) | with_reducible refine Nat.le_trans ?_ (Nat.le_add_right _ _) | (with_reducible refine bstep ?_ (by assumption)))); done))
  · cases h2 : inB way 0 100000
    · have e := ft_no (fuel := fuel) (way := way) (l := l) (by simp [ftOk, h2])
      rw [e.1, e.2]
      subst hv0
      clear e h
      go_enter Try.func7, Try.ntmps7
      go_wp2_with (go_at_call 12; refine (in_impl _ _ _ _).mono ?_; rintro e w1 ⟨rfl, rfl⟩; first | rw [h1] | rw [h2])
      all_goals first | (exfalso; rename_i hx; simp at hx; omega) | (refine bodyPost_ret (v := .tuple #[.int .i64 0, .bool false]) (by simp only [results, Try.results7]; go_simp) rfl ⟨rfl, ?_⟩; first | rfl | ((repeat (first | with_reducible exact Below.refl _ _ | with_reducible assumption | with_reducible refine balloc ?_ _ | with_reducible refine bdrew ?_ | with_reducible refine below_drewN ?_ _ | with_reducible refine bset ?_ ?_ _ | with_reducible exact Nat.le_refl _ | with_reducible refine bsize ?_ | (dsimp only; refine Nat.le_trans ?_ (Nat.le_add_right _ _)) | with_reducible refine Nat.le_trans ?_ (Nat.le_add_right _ _) | (with_reducible refine bstep ?_ (by assumption)))); done))
    · cases h3 : lstB 20 l
      · have e := ft_no (fuel := fuel) (way := way) (l := l) (by simp [ftOk, h3])
        rw [e.1, e.2]
        rw [h3] at HL
        subst hv0
        clear e h
        go_enter Try.func7, Try.ntmps7
        go_wp2_with (first | (go_at_call 12; refine (in_impl _ _ _ _).mono ?_; rintro e w1 ⟨rfl, rfl⟩; first | rw [h1] | rw [h2]) | (go_at_call 13; refine (HL.out _ (Below.refl _ _)).mono ?_; rintro e w1 ⟨rfl, hb1⟩))
        all_goals first | (exfalso; rename_i hx; simp at hx; omega) | (refine bodyPost_ret (v := .tuple #[.int .i64 0, .bool false]) (by simp only [results, Try.results7]; go_simp) rfl ⟨rfl, ?_⟩; first | rfl | ((repeat (first | with_reducible exact Below.refl _ _ | with_reducible assumption | with_reducible refine balloc ?_ _ | with_reducible refine bdrew ?_ | with_reducible refine below_drewN ?_ _ | with_reducible refine bset ?_ ?_ _ | with_reducible exact Nat.le_refl _ | with_reducible refine bsize ?_ | (dsimp only; refine Nat.le_trans ?_ (Nat.le_add_right _ _)) | with_reducible refine Nat.le_trans ?_ (Nat.le_add_right _ _) | (with_reducible refine bstep ?_ (by assumption)))); done))
      · have hok : ftOk fuel way l = true := by simp [ftOk, h1, h2, h3]
        have hf : 0 ≤ fuel ∧ fuel ≤ 100000 := by simpa [inB] using h1
        have hw : 0 ≤ way ∧ way ≤ 100000 := by simpa [inB] using h2
        have hk := tkOk_of h3
        have HRe := Lib.hid (fun W (hB : Below w.heap.size w W) => reaches_impl fuel hf.1 hf.2 v l hk W (rowG_below h hB))
        have hHit := Lib.hid (fun (k : Nat) (hk : k ≤ l.length) h1 h2 => ft_hit (fuel := fuel) (way := way) hok hk h1 h2)
        have hNone := Lib.hid (fun h2 => ft_none (fuel := fuel) (way := way) (l := l) h2)
        have hTl := tkR_len l l.length
        have hn := hk.hn
        rw [h3] at HL
        subst hv0
        clear h
        obtain ⟨V, hV⟩ : ∃ V, ftV fuel way l = V := ⟨_, rfl⟩
        obtain ⟨B, hB⟩ : ∃ B, ftB fuel way l = B := ⟨_, rfl⟩
        rw [hV, hB]
        rw [hV, hB] at hHit hNone
        clear hV hB hok hk hTl
        generalize tkR l l.length = R at *
        generalize l.length = n at *
        go_enter Try.func7, Try.ntmps7
        go_wp2_with (first | (go_at_call 12; refine (in_impl _ _ _ _).mono ?_; rintro e w1 ⟨rfl, rfl⟩; first | rw [h1] | rw [h2]) | (go_at_call 13; refine (HL.out _ (Below.refl _ _)).mono ?_; rintro e w1 ⟨rfl, hb1⟩))
        refine (HRe.out _ (by (repeat (first | with_reducible exact Below.refl _ _ | with_reducible assumption | with_reducible refine balloc ?_ _ | with_reducible refine bdrew ?_ | with_reducible refine below_drewN ?_ _ | with_reducible refine bset ?_ ?_ _ | with_reducible exact Nat.le_refl _ | with_reducible refine bsize ?_ | (dsimp only; refine Nat.le_trans ?_ (Nat.le_add_right _ _)) | with_reducible refine Nat.le_trans ?_ (Nat.le_add_right _ _) | (with_reducible refine bstep ?_ (by assumption)))))).mono ?_
        rintro e w2 ⟨g, c, T, rfl, hown, hT, hb2⟩
        have hbel : Below w.heap.size w w2 := by (repeat (first | with_reducible exact Below.refl _ _ | with_reducible assumption | with_reducible refine balloc ?_ _ | with_reducible refine bdrew ?_ | with_reducible refine below_drewN ?_ _ | with_reducible refine bset ?_ ?_ _ | with_reducible exact Nat.le_refl _ | with_reducible refine bsize ?_ | (dsimp only; refine Nat.le_trans ?_ (Nat.le_add_right _ _)) | with_reducible refine Nat.le_trans ?_ (Nat.le_add_right _ _) | (with_reducible refine bstep ?_ (by assumption))))
        clear HL HRe hb1 hb2
        go_wp2
        go_loopw [27] (fun x wr => ∃ k : Nat, k ≤ n + 1 ∧ x = .int .i64 k ∧ Hid (∀ j, j < k → T j < way) ∧ wr = w2) (fun x _ => n + 1 - (intOf x).toNat)
        case atStart => exact ⟨0, Nat.zero_le _, rfl, Lib.hid (fun j hj => absurd hj (Nat.not_lt_zero _)), rfl⟩
        case round =>
          obtain ⟨k, hk, rfl, hlow, hw2⟩ := hrel
          replace hw2 := hw2.symm
          subst hw2
          by_cases hlt : k < n + 1
          · have hc1 : w2.cell? ⟨g, k, none⟩ = some (.int .i64 (T k)) := by
              rw [hown.cellAt k (by omega), rowF_get _ _ _ (by omega)]
            have i1 : (0 : Int) ≤ (k : Int) ∧ (k : Int) < (n : Int) + 1 := by omega
            by_cases hwT : way ≤ T k
            · have h8 := tab_first fuel R T hT.out way k hwT hlow.out
              have h9 := hHit.out k (by omega) h8.1 h8.2
              clear h8 hHit hNone
              obtain ⟨hV9, hB9⟩ := h9
              subst hV9 hB9
              generalize T k = x at *
              have hwT2 : ¬ (x < way) := by omega
              go_wp2
              all_goals first | (exfalso; omega) | skip
              all_goals refine bodyPost_ret (v := .tuple #[.int .i64 (k : Int), .bool true]) (by simp only [results, Try.results7]; go_simp) rfl ⟨rfl, ?_⟩
              all_goals exact hbel
            · have hlow2 : Hid (∀ j, j < k + 1 → T j < way) := Lib.hid (fun j hj => by
                by_cases e : j = k
                · subst e; omega
                · exact hlow.out j (by omega))
              generalize hTk : T k = x at *
              replace hTk := Lib.hid hTk
              have hwT2 : ¬ (way ≤ x) := by omega
              go_wp2
              all_goals first | (exfalso; omega) | skip
              all_goals
                go_roundw
                case rel => exact ⟨k + 1, by omega, by go_num, hlow2, by first | rfl | trivial⟩
                case measure => first | (simp [intOf]; done) | (simp [intOf]; omega)
          · have e0 : k = n + 1 := by omega
            subst e0
            have h9 := hNone.out (tab_none fuel R T hT.out way n (fun j hj => hlow.out j (by omega)))
            clear hHit hNone
            obtain ⟨hV9, hB9⟩ := h9
            subst hV9 hB9
            go_wp2
            refine bodyPost_ret (v := .tuple #[.int .i64 0, .bool false]) (by simp only [results, Try.results7]; go_simp) rfl ⟨rfl, ?_⟩
            exact hbel
end Go.Proofs.Ytoienhjbhpdehaa
