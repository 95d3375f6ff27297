/- Roads: what lies between two places (plain). -/
import Derived.Test.YtiafmojmanhdoaaRoadC
import Derived.Test.YtiafmojmanhdoaaReck2
import Derived.Test.YtiafmojmanhdoaaPubS2
namespace Go.Proofs.Ytiafmojmanhdoaa
open Go.ChangeShapes Go.WideShapes Go.ChangeAt Go.RowKit Go.Joins
set_option maxRecDepth 100000
set_option linter.unusedVariables false
set_option linter.unusedSimpArgs false


/-- How far the second place is from the first one. -/
def difP (p q : Int × Int) : Int × Int := (lowN (q.1 * p.2 - p.1 * q.2) (q.2 * p.2), lowD (q.1 * p.2 - p.1 * q.2) (q.2 * p.2))
def gpL : List (Int × Int) → Int × Int → List (Int × Int)
  | [], _ => []
  | q :: t, p => difP p q :: gpL t q
def endL (n d : Int) (l : List (Int × Int)) : List (Int × Int) := l ++ [(n, d)]
def plL (n d : Int) (l : List (Int × Int)) : List (Int × Int) := (0, 1) :: endL n d l
def gapL (n d : Int) (l : List (Int × Int)) : List (Int × Int) := gpL (endL n d l) (0, 1)
structure StOK (p q : Int × Int) : Prop where
  ap : amB p.1 p.2 = true
  aq : amB q.1 q.2 = true
  dp : p.2 ≤ 1000
  dq : q.2 ≤ 1000
  nq : q.1 ≤ 1000 * q.2
  le : p.1 * q.2 ≤ q.1 * p.2
theorem gpL_len (l : List (Int × Int)) (p : Int × Int) : (gpL l p).length = l.length := by
  induction l generalizing p with
  | nil => rfl
  | cons q t ih => simp [gpL, ih]
theorem gpL_get (l : List (Int × Int)) (p : Int × Int) (i : Nat) (x y : Int × Int) (hx : (p :: l)[i]? = some x) (hy : l[i]? = some y) : (gpL l p)[i]? = some (difP x y) := by
  induction l generalizing p i with
  | nil => simp at hy
  | cons q t ih =>
    rcases i with _ | i
    · simp at hx hy
      subst hx hy
      rfl
    · rw [List.getElem?_cons_succ] at hx hy
      show (difP p q :: gpL t q)[i + 1]? = _
      rw [List.getElem?_cons_succ]
      exact ih q i hx hy
theorem gpL_take (l : List (Int × Int)) (p : Int × Int) (i : Nat) (x y : Int × Int) (hx : (p :: l)[i]? = some x) (hy : l[i]? = some y) : (gpL l p).take (i + 1) = (gpL l p).take i ++ [difP x y] := by
  have h := gpL_get l p i x y hx hy
  rw [List.take_add_one, h]
  rfl
theorem div_le6 (x g : Int) (hx : 0 ≤ x) (hg : 1 ≤ g) (hb : x ≤ 1000000000) : x / g ≤ 1000000000 := by
  have h1 : x / g ≤ x := Int.ediv_le_self _ hx
  omega
theorem st_low {p q : Int × Int} (h : StOK p q) : lowB (q.1 * p.2 - p.1 * q.2) (q.2 * p.2) = true := by
  obtain ⟨ap, aq, dp, dq, nq, le⟩ := h
  have a := am_of _ _ ap
  have b := am_of _ _ aq
  have hd := Int.mul_pos (show 0 < q.2 by have := b.c; omega) (show 0 < p.2 by have := a.c; omega)
  have h1 : q.1 ≤ 1000000 := by omega
  have h2 : q.1 * p.2 ≤ 1000000 * 1000 := Int.mul_le_mul h1 dp (by have := a.c; omega) (by omega)
  have h3 : 0 ≤ p.1 * q.2 := Int.mul_nonneg a.a (by have := b.c; omega)
  have h4 : q.2 * p.2 ≤ 1000 * 1000 := Int.mul_le_mul dq dp (by have := a.c; omega) (by omega)
  have hg := gi_pos (q.1 * p.2 - p.1 * q.2) (q.2 * p.2) (by omega)
  rw [lowB_iff]
  exact ⟨by omega, by omega, div_le6 _ _ (by omega) hg (by omega), div_le6 _ _ (by omega) hg (by omega)⟩
theorem st_am {p q : Int × Int} (h : StOK p q) : amB (difP p q).1 (difP p q).2 = true := amB_low _ _ (st_low h)
theorem rp_all {n d : Int} (h : rpB n d = true) : amB n d = true ∧ d ≤ 1000 ∧ n ≤ 1000 * d := by
  unfold rpB at h
  simp at h
  exact ⟨h.1, h.2.1, h.2.2⟩
theorem rdB_1 {n d : Int} {l : List (Int × Int)} (h : rdB n d l = true) : rpB n d = true ∧ l.length ≤ 16 ∧ ∀ p ∈ l, rpB p.1 p.2 = true := by
  unfold rdB at h
  rw [Bool.and_eq_true, Bool.and_eq_true] at h
  have := lsr_all h.2.1
  exact ⟨h.1, by omega, this.2⟩
/-- The places of a road, one behind the other. -/
theorem rd_step {n d : Int} {l : List (Int × Int)} (h : rdB n d l = true) {i : Nat} {p q : Int × Int} (hp : (plL n d l)[i]? = some p) (hq : (endL n d l)[i]? = some q) : StOK p q := by
  obtain ⟨hw, h16, hl⟩ := rdB_1 h
  have hall : ∀ x ∈ endL n d l, amB x.1 x.2 = true ∧ x.2 ≤ 1000 ∧ x.1 ≤ 1000 * x.2 := by
    intro x hx
    simp only [endL, List.mem_append, List.mem_singleton] at hx
    rcases hx with hx | rfl
    · exact rp_all (hl x hx)
    · exact rp_all hw
  have hp' : amB p.1 p.2 = true ∧ p.2 ≤ 1000 := by
    have hm := List.mem_of_getElem? hp
    simp only [plL, List.mem_cons] at hm
    rcases hm with rfl | hm
    · exact ⟨am01, by decide⟩
    · exact ⟨(hall p hm).1, (hall p hm).2.1⟩
  have hq' := hall q (List.mem_of_getElem? hq)
  refine ⟨hp'.1, hq'.1, hp'.2, hq'.2.1, hq'.2.2, ?_⟩
  by_cases h0 : l.length = 0
  · have e : l = [] := List.length_eq_zero_iff.1 h0
    subst e
    have hi : i = 0 := by
      have := (List.getElem?_eq_some_iff.1 hq).1
      simp [endL] at this
      exact this
    subst hi
    simp [plL, endL] at hp hq
    subst hp hq
    have := am_of _ _ (rp_all hw).1
    have := this.a
    simp; omega
  · have hI : incB (plL n d l) = true := by
      unfold rdB at h
      simp [h0] at h
      exact h.2.2
    have hlen : (plL n d l).length = l.length + 1 + 1 := by simp [plL, endL]
    have hi := (List.getElem?_eq_some_iff.1 hq).1
    have hi2 : (endL n d l).length = l.length + 1 := by simp [endL]
    have h1 := of_decide_eq_true ((List.all_eq_true.1 hI) i (List.mem_range.2 (by rw [hlen]; omega)))
    rw [cmAt_is _ i p q hp (by show ((0, 1) :: endL n d l)[i + 1]? = _; rw [List.getElem?_cons_succ]; exact hq), cm_lt hp'.1 hq'.1] at h1
    omega
/-- The greater one of two, the first one if they are the same. -/
def mxP (m x : Int × Int) : Int × Int := if 0 < cmI x.1 x.2 m.1 m.2 then x else m
def lgF (l : List (Int × Int)) (m : Int × Int) : Int × Int := l.foldl mxP m
def lgO (n d : Int) (l : List (Int × Int)) : Int × Int := if rdB n d l = true then lgF (gapL n d l) (0, 1) else (0, 0)
theorem mx_first {g : Int × Int} (h : amB g.1 g.2 = true) : mxP (0, 1) g = g := by
  have a := am_of _ _ h
  unfold mxP
  by_cases hc : 0 < cmI g.1 g.2 0 1
  · rw [if_pos hc]
  · rw [if_neg hc]
    have h0 : g.1 = 0 := by
      unfold cmI okk at hc
      rw [h, am01] at hc
      simp only [Bool.and_self, if_true] at hc
      unfold sgI at hc
      have := a.a
      split at hc
      · omega
      · omega
    have h1 := (amB_iff _ _).1 h
    rw [h0] at h1
    have h2 : gi 0 g.2 = g.2 := by
      unfold gi
      rw [Int.gcd_zero_left]
      omega
    rw [h2] at h1
    ext
    · exact h0.symm
    · show (1 : Int) = g.2
      omega
theorem gapL_am {n d : Int} {l : List (Int × Int)} (h : rdB n d l = true) : ∀ g ∈ gapL n d l, amB g.1 g.2 = true := by
  intro g hg
  obtain ⟨i, hi, he⟩ := List.mem_iff_getElem.1 hg
  have hi2 : i < (endL n d l).length := by rw [gapL, gpL_len] at hi; exact hi
  obtain ⟨q, hq⟩ : ∃ q, (endL n d l)[i]? = some q := ⟨_, List.getElem?_eq_getElem hi2⟩
  obtain ⟨p, hp⟩ : ∃ p, (plL n d l)[i]? = some p := ⟨_, List.getElem?_eq_getElem (by simp [plL]; omega)⟩
  have h1 := gpL_get (endL n d l) (0, 1) i p q hp hq
  have h2 : (gapL n d l)[i]? = some g := by rw [List.getElem?_eq_getElem hi, he]
  rw [gapL, h1] at h2
  injection h2 with h2
  rw [← h2]
  exact st_am (rd_step h hp hq)
theorem lgF_am : ∀ (l : List (Int × Int)) (m : Int × Int), amB m.1 m.2 = true → (∀ g ∈ l, amB g.1 g.2 = true) → amB (lgF l m).1 (lgF l m).2 = true := by
  intro l
  induction l with
  | nil => intro m h _; exact h
  | cons g l ih =>
    intro m h hl
    refine ih _ ?_ (fun x hx => hl x (List.mem_cons_of_mem _ hx))
    unfold mxP
    split
    · exact hl g (List.mem_cons_self ..)
    · exact h
end Go.Proofs.Ytiafmojmanhdoaa
