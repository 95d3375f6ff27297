/- Roads: with how few stops each place can be come to (plain). -/
import Derived.Test.YtiafmojmanhdoaaRoadG
namespace Go.Proofs.Ytiafmojmanhdoaa
open Go.ChangeShapes Go.WideShapes Go.ChangeAt Go.RowKit Go.Joins
set_option maxRecDepth 100000
set_option linter.unusedVariables false
set_option linter.unusedSimpArgs false


/-- Are two places no farther apart than a tank lasts? -/
def nrB (p q : Int × Int) : Bool := lowB (q.1 * p.2 - p.1 * q.2) (q.2 * p.2) && decide ((difP p q).1 ≤ (difP p q).2)
/-- One more place from which to come. -/
def fwStep (P : List (Int × Int)) (few : List Int) (i : Nat) (cur : Int) (k : Nat) : Int :=
  if few.getD k 0 < 0 ∨ nrB (P.getD k (0, 1)) (P.getD i (0, 1)) = false then cur
  else if cur < 0 ∨ few.getD k 0 + (if 0 < k then 1 else 0) < cur then few.getD k 0 + (if 0 < k then 1 else 0) else cur
def fwC (P : List (Int × Int)) (few : List Int) (i k : Nat) : Int := (List.range k).foldl (fwStep P few i) (-1)
def fwV (P : List (Int × Int)) (few : List Int) (i : Nat) : Int := if i = 0 then 0 else fwC P few i i
def fwF (P : List (Int × Int)) : Nat → List Int
  | 0 => []
  | i + 1 => fwF P i ++ [fwV P (fwF P i) i]
theorem fwF_len (P : List (Int × Int)) (i : Nat) : (fwF P i).length = i := by
  induction i with
  | zero => rfl
  | succ i ih => simp [fwF, ih]
theorem fwC_succ (P : List (Int × Int)) (few : List Int) (i k : Nat) : fwC P few i (k + 1) = fwStep P few i (fwC P few i k) k := by
  simp [fwC, List.range_succ]
theorem fwF_get {P : List (Int × Int)} {i j : Nat} (h : j < i) : (fwF P i).getD j 0 = fwV P (fwF P j) j := by
  induction i with
  | zero => omega
  | succ i ih =>
    by_cases hj : j < i
    · rw [fwF, List.getD_eq_getElem?_getD, List.getElem?_append_left (by rw [fwF_len]; exact hj), ← List.getD_eq_getElem?_getD]
      exact ih hj
    · have hji : j = i := by omega
      subst hji
      rw [fwF, List.getD_eq_getElem?_getD, List.getElem?_append_right (by rw [fwF_len]; exact Nat.le_refl _), fwF_len]
      simp
/-- It looks at what is told of the places before alone. -/
theorem fwC_ext {P : List (Int × Int)} {f g : List Int} {i k : Nat} (h : ∀ j < k, f.getD j 0 = g.getD j 0) : fwC P f i k = fwC P g i k := by
  induction k with
  | zero => rfl
  | succ k ih =>
    rw [fwC_succ, fwC_succ, ih (fun j hj => h j (by omega))]
    unfold fwStep
    rw [h k (by omega)]
def fw (P : List (Int × Int)) (i : Nat) : Int := fwV P (fwF P i) i
theorem fwF_fw {P : List (Int × Int)} {i j : Nat} (h : j < i) : (fwF P i).getD j 0 = fw P j := fwF_get h
theorem fwC_bd {P : List (Int × Int)} {few : List Int} {i k : Nat} (h : ∀ j < k, few.getD j 0 ≤ (j : Int)) : -1 ≤ fwC P few i k ∧ fwC P few i k ≤ (k : Int) := by
  induction k with
  | zero => exact ⟨by simp [fwC], by simp [fwC]⟩
  | succ k ih =>
    have h1 := ih (fun j hj => h j (by omega))
    have h2 := h k (by omega)
    rw [fwC_succ]
    unfold fwStep
    split
    · omega
    · next hn =>
      have h3 : ¬ few.getD k 0 < 0 := fun hh => hn (Or.inl hh)
      split <;> split <;> omega
theorem fw_bd (P : List (Int × Int)) (i : Nat) : -1 ≤ fw P i ∧ fw P i ≤ (i : Int) := by
  induction i using Nat.strongRecOn with
  | ind i ih =>
    unfold fw fwV
    split
    · omega
    · exact fwC_bd (fun j hj => by rw [fwF_fw hj]; exact (ih j hj).2)
theorem fwC_ge {P : List (Int × Int)} {few : List Int} {i k : Nat} : 0 ≤ fwC P few i k ↔ ∃ j < k, 0 ≤ few.getD j 0 ∧ nrB (P.getD j (0, 1)) (P.getD i (0, 1)) = true := by
  induction k with
  | zero => simp [fwC]
  | succ k ih =>
    rw [fwC_succ]
    unfold fwStep
    by_cases hn : few.getD k 0 < 0 ∨ nrB (P.getD k (0, 1)) (P.getD i (0, 1)) = false
    · rw [if_pos hn, ih]
      constructor
      · rintro ⟨j, hj, h⟩; exact ⟨j, by omega, h⟩
      · rintro ⟨j, hj, h1, h2⟩
        by_cases hjk : j = k
        · subst hjk
          rcases hn with hn | hn
          · omega
          · rw [hn] at h2; cases h2
        · exact ⟨j, by omega, h1, h2⟩
    · rw [if_neg hn]
      have h1 : 0 ≤ few.getD k 0 := Int.not_lt.1 (fun hh => hn (Or.inl hh))
      have h2 : nrB (P.getD k (0, 1)) (P.getD i (0, 1)) = true := by
        cases hh : nrB (P.getD k (0, 1)) (P.getD i (0, 1))
        · exact absurd (Or.inr hh) hn
        · rfl
      constructor
      · intro _; exact ⟨k, by omega, h1, h2⟩
      · intro _
        by_cases hc : fwC P few i k < 0 ∨ few.getD k 0 + (if 0 < k then 1 else 0) < fwC P few i k
        · rw [if_pos hc]
          split <;> omega
        · rw [if_neg hc]
          have : ¬ fwC P few i k < 0 := fun hh => hc (Or.inl hh)
          omega
/-- A place is come to from one before it, or is the start. -/
theorem fw_ge {P : List (Int × Int)} {i : Nat} (h0 : 0 < i) : 0 ≤ fw P i ↔ ∃ j < i, 0 ≤ fw P j ∧ nrB (P.getD j (0, 1)) (P.getD i (0, 1)) = true := by
  unfold fw
  rw [fwV, if_neg (by omega), fwC_ge]
  constructor
  · rintro ⟨j, hj, h1, h2⟩; exact ⟨j, hj, by rw [fwF_get hj] at h1; exact h1, h2⟩
  · rintro ⟨j, hj, h1, h2⟩; exact ⟨j, hj, by rw [fwF_get hj]; exact h1, h2⟩
theorem fw_0 (P : List (Int × Int)) : fw P 0 = 0 := by simp [fw, fwV]
/-- The places of a road as they stand to one another. -/
structure Mono (P : List (Int × Int)) : Prop where
  st : ∀ i p q, P[i]? = some p → P[i + 1]? = some q → StOK p q
theorem nr_iff {p q : Int × Int} (h : StOK p q) : nrB p q = true ↔ q.1 * p.2 - p.1 * q.2 ≤ q.2 * p.2 := by
  unfold nrB
  rw [st_low h, Bool.true_and, decide_eq_true_eq]
  have hl := (lowB_iff _ _).1 (st_low h)
  have hg := gi_pos (q.1 * p.2 - p.1 * q.2) (q.2 * p.2) (by have := hl.2.1; omega)
  show lowN _ _ ≤ lowD _ _ ↔ _
  unfold lowN lowD
  rw [if_pos (st_low h), if_pos (st_low h)]
  have hd1 : gi (q.1 * p.2 - p.1 * q.2) (q.2 * p.2) ∣ (q.1 * p.2 - p.1 * q.2) := Int.gcd_dvd_left ..
  have hd2 : gi (q.1 * p.2 - p.1 * q.2) (q.2 * p.2) ∣ (q.2 * p.2) := Int.gcd_dvd_right ..
  generalize gi (q.1 * p.2 - p.1 * q.2) (q.2 * p.2) = g at *
  obtain ⟨a, ha⟩ := hd1
  obtain ⟨b, hb⟩ := hd2
  rw [ha, hb, Int.mul_ediv_cancel_left _ (by omega), Int.mul_ediv_cancel_left _ (by omega)]
  exact ⟨fun h => Int.mul_le_mul_of_nonneg_left h (by omega), fun h => Int.le_of_mul_le_mul_left h (by omega)⟩
theorem mono_am {P : List (Int × Int)} (hm : Mono P) {i : Nat} {p : Int × Int} (hp : P[i]? = some p) (h2 : 2 ≤ P.length) : amB p.1 p.2 = true ∧ p.2 ≤ 1000 := by
  have hi := (List.getElem?_eq_some_iff.1 hp).1
  by_cases hc : i + 1 < P.length
  · obtain ⟨q, hq⟩ : ∃ q, P[i + 1]? = some q := ⟨_, List.getElem?_eq_getElem hc⟩
    have := hm.st i p q hp hq
    exact ⟨this.ap, this.dp⟩
  · obtain ⟨q, hq⟩ : ∃ q, P[i - 1]? = some q := ⟨_, List.getElem?_eq_getElem (by omega)⟩
    have := hm.st (i - 1) q p hq (by rw [show i - 1 + 1 = i by omega]; exact hp)
    exact ⟨this.aq, this.dq⟩
theorem le_trans6 {a1 a2 b1 b2 c1 c2 : Int} (ha : 1 ≤ a2) (hb : 1 ≤ b2) (hc : 1 ≤ c2) (h1 : a1 * b2 ≤ b1 * a2) (h2 : b1 * c2 ≤ c1 * b2) : a1 * c2 ≤ c1 * a2 := by
  have e1 : a1 * b2 * c2 ≤ b1 * a2 * c2 := Int.mul_le_mul_of_nonneg_right h1 (by omega)
  have e2 : b1 * c2 * a2 ≤ c1 * b2 * a2 := Int.mul_le_mul_of_nonneg_right h2 (by omega)
  have e3 : b1 * a2 * c2 = b1 * c2 * a2 := by rw [Int.mul_assoc, Int.mul_assoc, Int.mul_comm a2 c2]
  have e4 : (a1 * c2) * b2 ≤ (c1 * a2) * b2 := by
    have r1 : a1 * c2 * b2 = a1 * b2 * c2 := by rw [Int.mul_assoc, Int.mul_assoc, Int.mul_comm c2 b2]
    have r2 : c1 * a2 * b2 = c1 * b2 * a2 := by rw [Int.mul_assoc, Int.mul_assoc, Int.mul_comm a2 b2]
    rw [r1, r2]; omega
  exact Int.le_of_mul_le_mul_right e4 (by omega)
/-- Any two places, the farther one behind. -/
theorem mono_st {P : List (Int × Int)} (hm : Mono P) : ∀ (e i : Nat) (p q : Int × Int), P[i]? = some p → P[i + e + 1]? = some q → StOK p q := by
  intro e
  induction e with
  | zero => intro i p q hp hq; exact hm.st i p q hp hq
  | succ e ih =>
    intro i p q hp hq
    have hi := (List.getElem?_eq_some_iff.1 hq).1
    obtain ⟨r, hr⟩ : ∃ r, P[i + e + 1]? = some r := ⟨_, List.getElem?_eq_getElem (by omega)⟩
    have h1 := ih i p r hp hr
    have h2 := hm.st (i + e + 1) r q hr hq
    have a1 := am_of _ _ h1.ap
    have a2 := am_of _ _ h1.aq
    have a3 := am_of _ _ h2.aq
    exact ⟨h1.ap, h2.aq, h1.dp, h2.dq, h2.nq, le_trans6 a1.c a2.c a3.c h1.le h2.le⟩
theorem mono_at {P : List (Int × Int)} (hm : Mono P) {i j : Nat} {p q : Int × Int} (hij : i < j) (hp : P[i]? = some p) (hq : P[j]? = some q) : StOK p q :=
  mono_st hm (j - i - 1) i p q hp (by rw [show i + (j - i - 1) + 1 = j by omega]; exact hq)
/-- Who is near to a place is near to those between. -/
theorem nr_between {a b c d : Int × Int} (h1 : StOK a d) (h2 : StOK b c) (ha : a.1 * b.2 ≤ b.1 * a.2) (hd : c.1 * d.2 ≤ d.1 * c.2) (pa : 1 ≤ a.2) (pb : 1 ≤ b.2) (pc : 1 ≤ c.2) (pd : 1 ≤ d.2) (h : nrB a d = true) : nrB b c = true := by
  rw [nr_iff h1] at h
  rw [nr_iff h2]
  -- d1/d2 - a1/a2 ≤ 1; c ≤ d, a ≤ b
  have e1 : d.1 * a.2 ≤ (d.2 + 0) * a.2 + a.1 * d.2 := by
    have : d.2 * a.2 = d.2 * a.2 := rfl
    rw [Int.add_zero]; omega
  have e2 : d.1 * a.2 ≤ (a.1 + a.2) * d.2 := by rw [Int.add_mul]; rw [Int.add_zero, Int.mul_comm d.2 a.2] at e1; omega
  have e3 : c.1 * a.2 ≤ (a.1 + a.2) * c.2 := le_trans6 pc pd pa hd e2
  have e4 : (a.1 + a.2) * b.2 ≤ (b.1 + b.2) * a.2 := by rw [Int.add_mul, Int.add_mul, Int.mul_comm a.2 b.2]; omega
  have e5 : c.1 * b.2 ≤ (b.1 + b.2) * c.2 := le_trans6 pc pa pb e3 e4
  rw [Int.add_mul] at e5
  rw [Int.mul_comm b.2 c.2] at e5
  omega
def allNr (P : List (Int × Int)) : Prop := ∀ i p q, P[i]? = some p → P[i + 1]? = some q → nrB p q = true
theorem getD_at {P : List (Int × Int)} {i : Nat} {p : Int × Int} (h : P[i]? = some p) : P.getD i (0, 1) = p := by rw [List.getD_eq_getElem?_getD, h]; rfl
theorem fw_all {P : List (Int × Int)} (hm : Mono P) (h2 : 2 ≤ P.length) : 0 ≤ fw P (P.length - 1) ↔ allNr P := by
  constructor
  · intro h
    intro i p q hp hq
    -- if one gap is too long, no place behind it is come to
    cases hn : nrB p q with
    | true => rfl
    | false =>
      exfalso
      have hi := (List.getElem?_eq_some_iff.1 hq).1
      have hno : ∀ j, i < j → j < P.length → ¬ 0 ≤ fw P j := by
        intro j
        induction j using Nat.strongRecOn with
        | ind j ih =>
          intro hij hj hc
          rw [fw_ge (by omega)] at hc
          obtain ⟨k, hk, hk0, hkn⟩ := hc
          by_cases hik : i < k
          · exact ih k hk hik (by omega) hk0
          · obtain ⟨x, hx⟩ : ∃ x, P[k]? = some x := ⟨_, List.getElem?_eq_getElem (by omega)⟩
            obtain ⟨y, hy⟩ : ∃ y, P[j]? = some y := ⟨_, List.getElem?_eq_getElem hj⟩
            rw [getD_at hx, getD_at hy] at hkn
            have s1 := mono_at hm (show k < j by omega) hx hy
            have s2 := hm.st i p q hp hq
            have l1 : x.1 * p.2 ≤ p.1 * x.2 := by
              by_cases hki : k = i
              · subst hki
                rw [hp] at hx
                injection hx with hx
                rw [hx]
                exact Int.le_refl _
              · exact (mono_at hm (show k < i by omega) hx hp).le
            have l2 : q.1 * y.2 ≤ y.1 * q.2 := by
              by_cases hki : i + 1 = j
              · subst hki
                rw [hq] at hy
                injection hy with hy
                rw [hy]
                exact Int.le_refl _
              · exact (mono_at hm (show i + 1 < j by omega) hq hy).le
            have := nr_between s1 s2 l1 l2 (am_of _ _ s1.ap).c (am_of _ _ s2.ap).c (am_of _ _ s2.aq).c (am_of _ _ s1.aq).c hkn
            rw [hn] at this
            cases this
      exact hno (P.length - 1) (by omega) (by omega) h
  · intro h
    have : ∀ j, j < P.length → 0 ≤ fw P j := by
      intro j
      induction j with
      | zero => intro _; rw [fw_0]; exact Int.le_refl _
      | succ j ih =>
        intro hj
        rw [fw_ge (by omega)]
        obtain ⟨x, hx⟩ : ∃ x, P[j]? = some x := ⟨_, List.getElem?_eq_getElem (by omega)⟩
        obtain ⟨y, hy⟩ : ∃ y, P[j + 1]? = some y := ⟨_, List.getElem?_eq_getElem hj⟩
        exact ⟨j, by omega, ih (by omega), by rw [getD_at hx, getD_at hy]; exact h j x y hx hy⟩
    exact this _ (by omega)
/-- The longest gap tells of all. -/
theorem mx_le {m x : Int × Int} (hm : amB m.1 m.2 = true) (hx : amB x.1 x.2 = true) : (mxP m x).1 ≤ (mxP m x).2 ↔ m.1 ≤ m.2 ∧ x.1 ≤ x.2 := by
  have a := am_of _ _ hm
  have b := am_of _ _ hx
  have a2 := a.c
  have b2 := b.c
  unfold mxP
  have hc : 0 < cmI x.1 x.2 m.1 m.2 ↔ m.1 * x.2 < x.1 * m.2 := by
    unfold cmI okk
    rw [hm, hx]
    simp only [Bool.and_self, if_true]
    unfold sgI
    split
    · omega
    · split <;> omega
  by_cases h : 0 < cmI x.1 x.2 m.1 m.2
  · rw [if_pos h]
    rw [hc] at h
    constructor
    · intro hh
      refine ⟨?_, hh⟩
      have e1 : x.1 * m.2 ≤ x.2 * m.2 := Int.mul_le_mul_of_nonneg_right hh (by omega)
      have e2 : m.1 * x.2 < m.2 * x.2 := by rw [Int.mul_comm m.2 x.2]; omega
      exact Int.le_of_lt (Int.lt_of_mul_lt_mul_right e2 (by omega))
    · exact fun hh => hh.2
  · rw [if_neg h]
    rw [hc] at h
    constructor
    · intro hh
      refine ⟨hh, ?_⟩
      have e1 : m.1 * x.2 ≤ m.2 * x.2 := Int.mul_le_mul_of_nonneg_right hh (by omega)
      have e2 : x.1 * m.2 ≤ x.2 * m.2 := by rw [Int.mul_comm x.2 m.2]; omega
      exact Int.le_of_mul_le_mul_right e2 (by omega)
    · exact fun hh => hh.1
theorem lgF_le : ∀ (l : List (Int × Int)) (m : Int × Int), amB m.1 m.2 = true → (∀ g ∈ l, amB g.1 g.2 = true) → ((lgF l m).1 ≤ (lgF l m).2 ↔ m.1 ≤ m.2 ∧ ∀ g ∈ l, g.1 ≤ g.2) := by
  intro l
  induction l with
  | nil => intro m _ _; simp [lgF]
  | cons g l ih =>
    intro m hm hl
    have hg := hl g (List.mem_cons_self ..)
    have h1 : amB (mxP m g).1 (mxP m g).2 = true := by unfold mxP; split <;> assumption
    have := ih (mxP m g) h1 (fun x hx => hl x (List.mem_cons_of_mem _ hx))
    show (lgF l (mxP m g)).1 ≤ (lgF l (mxP m g)).2 ↔ _
    rw [this, mx_le hm hg]
    simp only [List.mem_cons, forall_eq_or_imp]
    exact and_assoc
theorem rd_mono {n d : Int} {l : List (Int × Int)} (h : rdB n d l = true) : Mono (plL n d l) :=
  ⟨fun i p q hp hq => rd_step h hp (by rw [plL, List.getElem?_cons_succ] at hq; exact hq)⟩
theorem plL_len (n d : Int) (l : List (Int × Int)) : (plL n d l).length = l.length + 1 + 1 := by simp [plL, endL]
/-- Some stops are enough just where the longest gap is no longer than a tank lasts. -/
theorem go_iff {n d : Int} {l : List (Int × Int)} (h : rdB n d l = true) : 0 ≤ fw (plL n d l) (l.length + 1) ↔ (lgO n d l).1 ≤ (lgO n d l).2 := by
  have h1 := fw_all (rd_mono h) (by rw [plL_len]; omega)
  rw [plL_len, show l.length + 1 + 1 - 1 = l.length + 1 by omega] at h1
  have e1 : lgO n d l = lgF (gapL n d l) (0, 1) := by simp [lgO, h]
  rw [h1, e1, lgF_le _ _ am01 (gapL_am h)]
  constructor
  · intro ha
    refine ⟨by simp, fun g hg => ?_⟩
    obtain ⟨i, hi, he⟩ := List.mem_iff_getElem.1 hg
    have hi2 : i < (endL n d l).length := by rw [gapL, gpL_len] at hi; exact hi
    obtain ⟨q, hq⟩ : ∃ q, (endL n d l)[i]? = some q := ⟨_, List.getElem?_eq_getElem hi2⟩
    obtain ⟨p, hp⟩ : ∃ p, (plL n d l)[i]? = some p := ⟨_, List.getElem?_eq_getElem (by simp [plL]; omega)⟩
    have h2 := gpL_get (endL n d l) (0, 1) i p q hp hq
    have h3 : (gapL n d l)[i]? = some g := by rw [List.getElem?_eq_getElem hi, he]
    rw [gapL, h2] at h3
    injection h3 with h3
    have h4 := ha i p q hp (by rw [plL, List.getElem?_cons_succ]; exact hq)
    unfold nrB at h4
    rw [Bool.and_eq_true, decide_eq_true_eq, h3] at h4
    exact h4.2
  · rintro ⟨_, hg⟩ i p q hp hq
    have hq' : (endL n d l)[i]? = some q := by rw [plL, List.getElem?_cons_succ] at hq; exact hq
    have h2 := gpL_get (endL n d l) (0, 1) i p q hp hq'
    unfold nrB
    rw [st_low (rd_step h hp hq'), Bool.true_and, decide_eq_true_eq]
    exact hg _ (List.mem_of_getElem? h2)
end Go.Proofs.Ytiafmojmanhdoaa
