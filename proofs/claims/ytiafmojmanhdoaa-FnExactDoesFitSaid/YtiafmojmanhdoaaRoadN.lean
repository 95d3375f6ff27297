/- Roads: two ways to say that a road is good. -/
import Derived.Test.YtiafmojmanhdoaaRoadA
namespace Go.Proofs.Ytiafmojmanhdoaa
open Go.ChangeShapes Go.WideShapes Go.ChangeAt Go.RowKit Go.Joins
set_option maxRecDepth 100000
set_option linter.unusedVariables false
set_option linter.unusedSimpArgs false


theorem rp_am {n d : Int} (h : rpB n d = true) : amB n d = true := by unfold rpB at h; rw [Bool.and_eq_true] at h; exact h.1
theorem sg_neg (x : Int) : sgI x < 0 ↔ x < 0 := by unfold sgI; split <;> (try split) <;> omega
theorem sg_geq (x : Int) : 0 ≤ sgI x ↔ 0 ≤ x := by unfold sgI; split <;> (try split) <;> omega
theorem cm_lt {n d p q : Int} (h1 : amB n d = true) (h2 : amB p q = true) : cmI n d p q < 0 ↔ n * q < p * d := by
  unfold cmI okk
  rw [h1, h2]
  simp only [Bool.and_self, if_true, sg_neg]
  omega
theorem ltc_trans {a1 a2 b1 b2 c1 c2 : Int} (ha : 1 ≤ a2) (hb : 1 ≤ b2) (hc : 1 ≤ c2) (h1 : a1 * b2 < b1 * a2) (h2 : b1 * c2 < c1 * b2) : a1 * c2 < c1 * a2 := by
  have e1 : a1 * b2 * c2 < b1 * a2 * c2 := Int.mul_lt_mul_of_pos_right h1 (by omega)
  have e2 : b1 * c2 * a2 < c1 * b2 * a2 := Int.mul_lt_mul_of_pos_right h2 (by omega)
  have e3 : b1 * a2 * c2 = b1 * c2 * a2 := by rw [Int.mul_assoc, Int.mul_assoc, Int.mul_comm a2 c2]
  have e4 : (a1 * c2) * b2 < (c1 * a2) * b2 := by
    have r1 : a1 * c2 * b2 = a1 * b2 * c2 := by rw [Int.mul_assoc, Int.mul_assoc, Int.mul_comm c2 b2]
    have r2 : c1 * a2 * b2 = c1 * b2 * a2 := by rw [Int.mul_assoc, Int.mul_assoc, Int.mul_comm a2 b2]
    rw [r1, r2]; omega
  exact Int.lt_of_mul_lt_mul_right e4 (by omega)
/-- What the model asks of the well number i. -/
def gdAt (n d : Int) (l : List (Int × Int)) (i : Nat) : Bool := match l[i]? with
  | none => true
  | some p => rpB p.1 p.2 && (decide (p.1 ≠ 0) && (decide (p.1 * d < n * p.2) && (decide (i = 0) || (match l[i - 1]? with | some q => decide (q.1 * p.2 < p.1 * q.2) | none => true))))
def goodB (n d : Int) (l : List (Int × Int)) : Bool := rpB n d && (decide (l.length ≤ 16) && (List.range l.length).all (gdAt n d l))
theorem gdAt_0 {n d : Int} {l : List (Int × Int)} {i : Nat} {p : Int × Int} (hp : l[i]? = some p) : gdAt n d l i = (rpB p.1 p.2 && (decide (p.1 ≠ 0) && (decide (p.1 * d < n * p.2) && (decide (i = 0) || (match l[i - 1]? with | some q => decide (q.1 * p.2 < p.1 * q.2) | none => true))))) := by
  unfold gdAt; rw [hp]
theorem rp_pos {n d : Int} (h : rpB n d = true) : 0 ≤ n ∧ 1 ≤ d := by have := am_of _ _ (rp_am h); exact ⟨this.a, this.c⟩
theorem good_all {n d : Int} {l : List (Int × Int)} : (List.range l.length).all (gdAt n d l) = true ↔ ∀ i < l.length, gdAt n d l i = true := by
  rw [List.all_eq_true]
  exact ⟨fun h i hi => h i (List.mem_range.2 hi), fun h i hi => h i (List.mem_range.1 hi)⟩
theorem rd_get_last {n d : Int} {l : List (Int × Int)} : ((0, 1) :: (l ++ [(n, d)]))[l.length + 1]? = some (n, d) := by
  rw [List.getElem?_cons_succ, List.getElem?_append_right (Nat.le_refl _)]; simp
theorem rd_get {n d : Int} {l : List (Int × Int)} {i : Nat} (hi : i < l.length) : ((0, 1) :: (l ++ [(n, d)]))[i + 1]? = l[i]? := by
  rw [List.getElem?_cons_succ, List.getElem?_append_left hi]
theorem am01 : amB 0 1 = true := by decide
/-- The list of all places increases just where the wells do, from the start to the end. -/
theorem inc_iff {n d : Int} {l : List (Int × Int)} (hw : rpB n d = true) (hl : ∀ p ∈ l, rpB p.1 p.2 = true) (h0 : 0 < l.length) :
    incB ((0, 1) :: (l ++ [(n, d)])) = true ↔ (∀ p, l[0]? = some p → 0 < p.1) ∧ (∀ i p q, l[i]? = some p → l[i + 1]? = some q → p.1 * q.2 < q.1 * p.2) ∧ (∀ p, l[l.length - 1]? = some p → p.1 * d < n * p.2) := by
  have hlen : ((0, 1) :: (l ++ [(n, d)])).length = l.length + 1 + 1 := by simp
  constructor
  · intro h
    have H : ∀ i, i + 1 < l.length + 1 + 1 → cmAt ((0, 1) :: (l ++ [(n, d)])) i < 0 := fun i hi => by
      have := (List.all_eq_true.1 h) i (List.mem_range.2 (by rw [hlen]; omega))
      exact of_decide_eq_true this
    refine ⟨fun p hp => ?_, fun i p q hp hq => ?_, fun p hp => ?_⟩
    · have h1 := H 0 (by omega)
      rw [cmAt_is _ 0 (0, 1) p rfl (by rw [rd_get h0]; exact hp), cm_lt am01 (rp_am (hl p (List.mem_of_getElem? hp)))] at h1
      simp at h1
      exact h1
    · have hi1 := (List.getElem?_eq_some_iff.1 hq).1
      have h1 := H (i + 1) (by omega)
      rw [cmAt_is _ (i + 1) p q (by rw [rd_get (by omega)]; exact hp) (by rw [rd_get hi1]; exact hq), cm_lt (rp_am (hl p (List.mem_of_getElem? hp))) (rp_am (hl q (List.mem_of_getElem? hq)))] at h1
      exact h1
    · have h1 := H l.length (by omega)
      rw [cmAt_is _ l.length p (n, d) (by rw [show l.length = (l.length - 1) + 1 by omega, rd_get (by omega)]; exact hp) rd_get_last, cm_lt (rp_am (hl p (List.mem_of_getElem? hp))) (rp_am hw)] at h1
      exact h1
  · rintro ⟨a, b, c⟩
    refine incB_yes _ (fun i hi => ?_)
    rw [hlen] at hi
    rcases i with _ | i
    · obtain ⟨p, hp⟩ : ∃ p, l[0]? = some p := ⟨_, List.getElem?_eq_getElem h0⟩
      rw [cmAt_is _ 0 (0, 1) p rfl (by rw [rd_get h0]; exact hp), cm_lt am01 (rp_am (hl p (List.mem_of_getElem? hp)))]
      simp
      exact a p hp
    · by_cases hc : i + 1 < l.length
      · obtain ⟨p, hp⟩ : ∃ p, l[i]? = some p := ⟨_, List.getElem?_eq_getElem (by omega)⟩
        obtain ⟨q, hq⟩ : ∃ q, l[i + 1]? = some q := ⟨_, List.getElem?_eq_getElem hc⟩
        rw [cmAt_is _ (i + 1) p q (by rw [rd_get (by omega)]; exact hp) (by rw [rd_get hc]; exact hq), cm_lt (rp_am (hl p (List.mem_of_getElem? hp))) (rp_am (hl q (List.mem_of_getElem? hq)))]
        exact b i p q hp hq
      · have hi2 : i + 1 = l.length := by omega
        obtain ⟨p, hp⟩ : ∃ p, l[i]? = some p := ⟨_, List.getElem?_eq_getElem (by omega)⟩
        rw [cmAt_is _ (i + 1) p (n, d) (by rw [rd_get (by omega)]; exact hp) (by rw [show i + 1 + 1 = l.length + 1 by omega]; exact rd_get_last), cm_lt (rp_am (hl p (List.mem_of_getElem? hp))) (rp_am hw)]
        exact c p (by rw [show l.length - 1 = i by omega]; exact hp)
theorem good_is (n d : Int) (l : List (Int × Int)) : goodB n d l = rdB n d l := by
  unfold goodB rdB
  cases hw : rpB n d
  · rfl
  simp only [Bool.true_and]
  by_cases hlen' : ¬ l.length ≤ 16
  · have hlen := hlen'
    have h1 : lsrB 16 l = false := by
      unfold lsrB
      rw [Bool.and_eq_false_iff]
      left
      simp; omega
    simp [hlen, h1]
  have hlen : l.length ≤ 16 := by omega
  have hls : lsrB 16 l = l.all rpP := by
    unfold lsrB
    rw [show decide ((l.length : Int) ≤ 16) = true by simp; omega, Bool.true_and]
    rfl
  rw [hls]
  simp only [hlen, decide_true, Bool.true_and]
  rw [Bool.eq_iff_iff, good_all, Bool.and_eq_true, List.all_eq_true]
  constructor
  · intro h
    have hl : ∀ p ∈ l, rpB p.1 p.2 = true := fun p hp => by
      obtain ⟨i, hi, hip⟩ := List.mem_iff_getElem.1 hp
      have := h i hi
      rw [gdAt_0 (p := p) (by rw [List.getElem?_eq_getElem hi, hip])] at this
      simp only [Bool.and_eq_true] at this
      exact this.1
    refine ⟨hl, ?_⟩
    by_cases h0 : l.length = 0
    · simp [h0]
    rw [Bool.or_eq_true]
    right
    rw [inc_iff hw hl (by omega)]
    refine ⟨fun p hp => ?_, fun i p q hp hq => ?_, fun p hp => ?_⟩
    · have h1 := h 0 (by omega)
      rw [gdAt_0 hp] at h1
      simp only [Bool.and_eq_true, decide_eq_true_eq] at h1
      have := rp_pos (hl p (List.mem_of_getElem? hp))
      omega
    · have hi1 := (List.getElem?_eq_some_iff.1 hq).1
      have h1 := h (i + 1) hi1
      rw [gdAt_0 hq] at h1
      simp only [Bool.and_eq_true, decide_eq_true_eq, Bool.or_eq_true, Nat.add_sub_cancel, hp] at h1
      rcases h1.2.2.2 with h2 | h2
      · omega
      · exact h2
    · have h1 := h (l.length - 1) (by omega)
      rw [gdAt_0 hp] at h1
      simp only [Bool.and_eq_true, decide_eq_true_eq] at h1
      exact h1.2.2.1
  · rintro ⟨hl, h⟩ i hi
    replace hl : ∀ p ∈ l, rpB p.1 p.2 = true := hl
    have h0 : ¬ (l.length = 0) := by omega
    simp only [h0, decide_false, Bool.false_or] at h
    rw [inc_iff hw hl (by omega)] at h
    obtain ⟨a, b, c⟩ := h
    have hpos : ∀ (i : Nat) (p : Int × Int), l[i]? = some p → 0 < p.1 := by
      intro i
      induction i with
      | zero => exact a
      | succ i ih =>
        intro q hq
        have hi1 := (List.getElem?_eq_some_iff.1 hq).1
        obtain ⟨p, hp⟩ : ∃ p, l[i]? = some p := ⟨_, List.getElem?_eq_getElem (by omega)⟩
        have h1 := b i p q hp hq
        have h2 := ih p hp
        have h3 := rp_pos (hl p (List.mem_of_getElem? hp))
        have h4 := rp_pos (hl q (List.mem_of_getElem? hq))
        have h5 : 0 < p.1 * q.2 := Int.mul_pos h2 (by omega)
        have h6 : 0 < q.1 * p.2 := by omega
        exact Int.pos_of_mul_pos_left h6 (by omega)
    have hend : ∀ (k i : Nat) (p : Int × Int), i + k + 1 = l.length → l[i]? = some p → p.1 * d < n * p.2 := by
      intro k
      induction k with
      | zero => intro i p hi hp; exact c p (by rw [show l.length - 1 = i by omega]; exact hp)
      | succ k ih =>
        intro i p hi hp
        obtain ⟨q, hq⟩ : ∃ q, l[i + 1]? = some q := ⟨_, List.getElem?_eq_getElem (by omega)⟩
        have h1 := ih (i + 1) q (by omega) hq
        have h3 := rp_pos (hl p (List.mem_of_getElem? hp))
        have h4 := rp_pos (hl q (List.mem_of_getElem? hq))
        have h5 := rp_pos hw
        exact ltc_trans h3.2 h4.2 h5.2 (b i p q hp hq) h1
    obtain ⟨p, hp⟩ : ∃ p, l[i]? = some p := ⟨_, List.getElem?_eq_getElem hi⟩
    rw [gdAt_0 hp, hl p (List.mem_of_getElem? hp)]
    have h1 := hpos i p hp
    have h2 := hend (l.length - 1 - i) i p (by omega) hp
    have h3 : p.1 ≠ 0 := by omega
    simp only [h3, h2, ne_eq, not_false_eq_true, decide_true, Bool.true_and]
    by_cases hi0 : i = 0
    · simp [hi0]
    · obtain ⟨q, hq⟩ : ∃ q, l[i - 1]? = some q := ⟨_, List.getElem?_eq_getElem (by omega)⟩
      have h4 := b (i - 1) q p hq (by rw [show i - 1 + 1 = i by omega]; exact hp)
      rw [hq]
      simp [h4]
end Go.Proofs.Ytiafmojmanhdoaa
