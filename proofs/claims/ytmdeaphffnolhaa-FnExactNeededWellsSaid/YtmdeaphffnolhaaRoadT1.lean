/- Roads: one well less (plain). -/
import Derived.Test.YtmdeaphffnolhaaRoadS1
namespace Go.Proofs.Ytmdeaphffnolhaa
open Go.ChangeShapes Go.WideShapes Go.ChangeAt Go.RowKit Go.Joins
set_option maxRecDepth 100000
set_option linter.unusedVariables false
set_option linter.unusedSimpArgs false


def delL (l : List (Int × Int)) (i : Nat) : List (Int × Int) := l.take i ++ l.drop (i + 1)
theorem delL_len {l : List (Int × Int)} {i : Nat} (h : i < l.length) : (delL l i).length = l.length - 1 := by
  simp only [delL, List.length_append, List.length_take, List.length_drop]; omega
theorem delL_get {l : List (Int × Int)} {i j : Nat} (h : i < l.length) : (delL l i)[j]? = if j < i then l[j]? else l[j + 1]? := by
  unfold delL
  by_cases hj : j < i
  · rw [if_pos hj, List.getElem?_append_left (by rw [List.length_take]; omega), List.getElem?_take, if_pos hj]
  · rw [if_neg hj, List.getElem?_append_right (by rw [List.length_take]; omega), List.length_take, List.getElem?_drop]
    congr 1
    omega
theorem gd_parts {n d : Int} {l : List (Int × Int)} {i : Nat} {p : Int × Int} (hp : l[i]? = some p) (h : gdAt n d l i = true) : rpB p.1 p.2 = true ∧ p.1 ≠ 0 ∧ p.1 * d < n * p.2 ∧ (i = 0 ∨ ∀ q, l[i - 1]? = some q → q.1 * p.2 < p.1 * q.2) := by
  rw [gdAt_0 hp] at h
  simp only [Bool.and_eq_true, decide_eq_true_eq, Bool.or_eq_true] at h
  refine ⟨h.1, h.2.1, h.2.2.1, ?_⟩
  rcases h.2.2.2 with h4 | h4
  · exact Or.inl h4
  · right
    intro q hq
    rw [hq] at h4
    simpa using h4
theorem gd_mk {n d : Int} {l : List (Int × Int)} {i : Nat} {p : Int × Int} (hp : l[i]? = some p) (h1 : rpB p.1 p.2 = true) (h2 : p.1 ≠ 0) (h3 : p.1 * d < n * p.2) (h4 : i = 0 ∨ ∃ q, l[i - 1]? = some q ∧ q.1 * p.2 < p.1 * q.2) : gdAt n d l i = true := by
  rw [gdAt_0 hp, h1]
  rcases h4 with h4 | ⟨q, hq, h4⟩
  · simp [h2, h3, h4]
  · rw [hq]; simp [h2, h3, h4]
/-- A road is one with one well less, too. -/
theorem rd_del {n d : Int} {l : List (Int × Int)} {i : Nat} (h : rdB n d l = true) (hi : i < l.length) : rdB n d (delL l i) = true := by
  rw [← good_is] at h ⊢
  unfold goodB at h ⊢
  rw [Bool.and_eq_true, Bool.and_eq_true, good_all] at h ⊢
  obtain ⟨hw, h16, hg⟩ := h
  refine ⟨hw, ?_, ?_⟩
  · rw [delL_len hi]; simp at h16 ⊢; omega
  · intro j hj
    rw [delL_len hi] at hj
    by_cases hji : j < i
    · obtain ⟨p, hp⟩ : ∃ p, l[j]? = some p := ⟨_, List.getElem?_eq_getElem (by omega)⟩
      obtain ⟨h1, h2, h3, h4⟩ := gd_parts hp (hg j (by omega))
      refine gd_mk (p := p) (by rw [delL_get hi, if_pos hji]; exact hp) h1 h2 h3 ?_
      rcases h4 with h4 | h4
      · exact Or.inl h4
      · by_cases h0 : j = 0
        · exact Or.inl h0
        · obtain ⟨q, hq⟩ : ∃ q, l[j - 1]? = some q := ⟨_, List.getElem?_eq_getElem (by omega)⟩
          exact Or.inr ⟨q, by rw [delL_get hi, if_pos (by omega)]; exact hq, h4 q hq⟩
    · obtain ⟨p, hp⟩ : ∃ p, l[j + 1]? = some p := ⟨_, List.getElem?_eq_getElem (by omega)⟩
      obtain ⟨h1, h2, h3, h4⟩ := gd_parts hp (hg (j + 1) (by omega))
      refine gd_mk (p := p) (by rw [delL_get hi, if_neg hji]; exact hp) h1 h2 h3 ?_
      by_cases h0 : j = 0
      · exact Or.inl h0
      · right
        have h5 : ∀ q, l[j]? = some q → q.1 * p.2 < p.1 * q.2 := by
          rcases h4 with h4 | h4
          · omega
          · exact h4
        obtain ⟨q, hq⟩ : ∃ q, l[j]? = some q := ⟨_, List.getElem?_eq_getElem (by omega)⟩
        by_cases hc : j - 1 < i
        · have hij : j = i := by omega
          obtain ⟨r, hr⟩ : ∃ r, l[j - 1]? = some r := ⟨_, List.getElem?_eq_getElem (by omega)⟩
          obtain ⟨g1, g2, g3, g4⟩ := gd_parts hq (hg j (by omega))
          have h6 : r.1 * q.2 < q.1 * r.2 := by
            rcases g4 with g4 | g4
            · omega
            · exact g4 r hr
          have e1 := (rp_pos (gd_parts hr (hg (j - 1) (by omega))).1).2
          have e2 := (rp_pos g1).2
          have e3 := (rp_pos h1).2
          exact ⟨r, by rw [delL_get hi, if_pos hc]; exact hr, ltc_trans e1 e2 e3 h6 (h5 q hq)⟩
        · exact ⟨q, by rw [delL_get hi, if_neg hc, show j - 1 + 1 = j by omega]; exact hq, h5 q hq⟩
/-- The wells that are needed, of the first ones. -/
def nwP (n d : Int) (l : List (Int × Int)) : Nat → List Int
  | 0 => []
  | i + 1 => nwP n d l i ++ (if cgB n d (delL l i) = true then [] else [(i : Int)])
def nwL (n d : Int) (l : List (Int × Int)) : List Int := if rdB n d l = true then nwP n d l l.length else []
theorem nwP_len (n d : Int) (l : List (Int × Int)) (j : Nat) : (nwP n d l j).length ≤ j := by
  induction j with
  | zero => simp [nwP]
  | succ j ih =>
    simp only [nwP, List.length_append]
    split <;> simp <;> omega
theorem nwL_len (n d : Int) (l : List (Int × Int)) : (nwL n d l).length ≤ 1048576 := by
  unfold nwL
  split
  · next h => have h1 := nwP_len n d l l.length; have h2 := (rdB_1 h).2.1; omega
  · simp
theorem nwL_no {n d : Int} {l : List (Int × Int)} (h : rdB n d l = false) : nwL n d l = [] := by simp [nwL, h]
theorem nwL_yes {n d : Int} {l : List (Int × Int)} (h : rdB n d l = true) : nwL n d l = nwP n d l l.length := by simp [nwL, h]
theorem lies_nil {W : World} {a : Addr} {cap : Nat} (hc : cap ≤ 9223372036854775807) : LiesG 2 fAmt W a cap [] := ⟨by simp, hc, fun i p hp => by simp at hp, fun p hp => by simp at hp⟩
theorem row_tail {W : World} {a : Addr} {cap : Nat} {l : List (Int × Int)} (h : LiesG 2 fAmt W a cap l) {i : Nat} (hi : i < l.length) :
    RowG 2 fAmt W (.slice (if cap = i + 1 then some a else some (a.add ((i + 1) * 2))) (l.length - (i + 1)) (cap - (i + 1))) (l.drop (i + 1)) := by
  have hlc := h.hlc
  by_cases hc : cap = i + 1
  · rw [if_pos hc]
    have e : l.drop (i + 1) = [] := List.drop_of_length_le (by omega)
    rw [e]
    exact Or.inr ⟨a, _, by rw [show l.length - (i + 1) = 0 by omega]; rfl, lies_nil (by have := h.hcap; omega)⟩
  · rw [if_neg hc]
    exact Or.inr ⟨_, _, by rw [List.length_drop], liesG_drop h (i + 1) (by omega)⟩
theorem row_head {W : World} {a : Addr} {cap : Nat} {l : List (Int × Int)} (h : LiesG 2 fAmt W a cap l) {i : Nat} (hi : i < l.length) :
    RowG 2 fAmt W (.slice (some a) i cap) (l.take i) :=
  Or.inr ⟨_, _, by rw [List.length_take, Nat.min_eq_left (by omega)], liesG_take h i (by omega)⟩
end Go.Proofs.Ytmdeaphffnolhaa
