/- Camels: plain facts (no program): all parts of a way; LeftAt, WayWith, GoodsFor from them. -/
import Derived.Test.YtgpbkjakmbmccaaCamO
import Derived.Test.YtgpbkjakmbmccaaRow
namespace Go.Proofs.Ytgpbkjakmbmccaa
open Go.RowKit
set_option linter.unusedVariables false
set_option linter.unusedSimpArgs false

structure PartV where
  aN : Int
  aD : Int
  gN : Int
  gD : Int
  rt : Int
  nd : Int
instance : Inhabited PartV := ⟨⟨0, 0, 0, 0, 0, 0⟩⟩
def fPart (p : PartV) : List Int := [p.aN, p.aD, p.gN, p.gD, p.rt, p.nd]
theorem fPart_len (p : PartV) : (fPart p).length = 6 := rfl
/-- Goods where the i-th part begins: in units, and as a fraction; the way to there. -/
def paU (L d n : Int) (t i : Nat) : Int := if i = 0 then n else ((t : Int) - i) * (L * d)
def paG (L n : Int) (t i : Nat) : Int := if i = 0 then n else ((t : Int) - i) * L
def paH (d : Int) (i : Nat) : Int := if i = 0 then d else 1
def paA (L d n : Int) (t i : Nat) : Int := dS (L * d) n - dS (L * d) (paU L d n t i)
def paR (E : Int) (t i : Nat) : Int := (2 * ((t : Int) - i) - 1) * E
def paX (L E d n : Int) (t i : Nat) : Int := rdN (paA L d n t i) (3465 * (d * E))
def paY (L E d n : Int) (t i : Nat) : Int := rdD (paA L d n t i) (3465 * (d * E))
def partV (L E d n : Int) (t i : Nat) : PartV := ⟨paX L E d n t i, paY L E d n t i, paG L n t i, paH d i, paR E t i, ((t : Int) - i - 1) * L⟩
def partsP (L E d n : Int) (t i : Nat) : List PartV := (List.range i).map (partV L E d n t)
theorem partsP_len (L E d n : Int) (t i : Nat) : (partsP L E d n t i).length = i := by simp [partsP]
theorem partsP_succ (L E d n : Int) (t i : Nat) : partsP L E d n t (i + 1) = partsP L E d n t i ++ [partV L E d n t i] := by simp [partsP, List.range_succ]
theorem partsP_get (L E d n : Int) (t i m : Nat) (h : m < i) : (partsP L E d n t i)[m]? = some (partV L E d n t m) := by
  unfold partsP; rw [List.getElem?_map, List.getElem?_range h]; rfl
/-- Which numbers there are. -/
structure CamIn (L E d n : Int) (t : Nat) : Prop where
  L1 : 1 ≤ L
  L2 : L ≤ 12
  E1 : 1 ≤ E
  E2 : E ≤ 12
  d1 : 1 ≤ d
  d2 : d ≤ 12
  n0 : 0 ≤ n
  ht : TrpIs (L * d) n t
theorem cam_in (L E d n : Int) (h1 : 1 ≤ L) (h2 : L ≤ 12) (h3 : 1 ≤ E) (h4 : E ≤ 12) (h5 : 1 ≤ d) (h6 : d ≤ 12) (h7 : 0 ≤ n) (h8 : n ≤ 6 * L * d) : CamIn L E d n (trp (L * d) n) :=
  ⟨h1, h2, h3, h4, h5, h6, h7, trp_is _ _ (by rw [← Int.mul_assoc]; exact h8)⟩
theorem CamIn.ld {L E d n : Int} {t : Nat} (h : CamIn L E d n t) : 1 ≤ L * d ∧ L * d ≤ 144 := by
  have := Int.mul_pos (show 0 < L by have := h.L1; omega) (show 0 < d by have := h.d1; omega)
  have := mul_le2 L d 12 12 (by have := h.L1; omega) h.L2 (by have := h.d1; omega) h.d2
  omega
theorem CamIn.dE {L E d n : Int} {t : Nat} (h : CamIn L E d n t) : 1 ≤ d * E ∧ d * E ≤ 144 := by
  have := Int.mul_pos (show 0 < d by have := h.d1; omega) (show 0 < E by have := h.E1; omega)
  have := mul_le2 d E 12 12 (by have := h.d1; omega) h.d2 (by have := h.E1; omega) h.E2
  omega
theorem CamIn.n2 {L E d n : Int} {t : Nat} (h : CamIn L E d n t) : n ≤ 864 := by
  have hi := h.ht.hi
  have hb := h.ht.b
  obtain ⟨l1, l2⟩ := h.ld
  have := mul_le2 (t : Int) (L * d) 6 144 (by omega) (by omega) (by omega) l2
  omega
theorem part_at {L E d n : Int} {t : Nat} (h : CamIn L E d n t) (i k : Nat) (hi : k + i + 1 = t) : PartAt L d n k (paU L d n t i) (paG L n t i) (paH d i) := by
  obtain ⟨l1, l2⟩ := h.ld
  have h0 := h.n0
  have hd1 := h.d1
  obtain ⟨ta, tb, thi, tlo⟩ := h.ht
  subst hi
  unfold paU paG paH
  by_cases hz : i = 0
  · subst hz
    simp only [if_pos trivial]
    have e1 : ((k + 0 + 1 : Nat) : Int) = (k : Int) + 1 := by omega
    rw [e1] at thi tlo
    refine ⟨by omega, l1, ?_, thi, hd1, rfl⟩
    rcases tlo with tlo | tlo
    · have : k = 0 := by omega
      subst this; simp; exact h0
    · have e2 : (k : Int) + 1 - 1 = k := by omega
      rw [e2] at tlo; omega
  · have e1 : ((k + i + 1 : Nat) : Int) - i = (k : Int) + 1 := by omega
    simp only [if_neg hz, e1]
    refine ⟨by omega, l1, ?_, Int.le_refl _, by omega, ?_⟩
    · rw [Int.add_mul]; omega
    · rw [Int.mul_one, Int.mul_assoc]
theorem paU_next (L d n : Int) (t i k : Nat) (hi : k + i + 1 = t) : paU L d n t (i + 1) = k * (L * d) := by
  unfold paU
  have e : (t : Int) - ((i + 1 : Nat) : Int) = k := by omega
  rw [if_neg (by omega), e]
theorem paR_is (E : Int) (t i k : Nat) (hi : k + i + 1 = t) : paR E t i = (2 * (k : Int) + 1) * E := by
  unfold paR
  have e : 2 * ((t : Int) - i) - 1 = 2 * (k : Int) + 1 := by omega
  rw [e]
theorem paE_is (L : Int) (t i k : Nat) (hi : k + i + 1 = t) : ((t : Int) - i - 1) * L = k * L := by
  have e : (t : Int) - i - 1 = k := by omega
  rw [e]
theorem pa_zero (L E d n : Int) (t : Nat) (h : 1 ≤ 3465 * (d * E)) : paX L E d n t 0 = 0 ∧ paY L E d n t 0 = 1 := by
  have e : paA L d n t 0 = 0 := by unfold paA paU; rw [if_pos rfl]; omega
  unfold paX paY
  rw [e]
  unfold rdN rdD gi
  simp
  rw [Int.natAbs_of_nonneg (by omega), Int.ediv_self (by omega)]
/-- The way goes on by one part. -/
theorem pa_next {L E d n : Int} {t : Nat} (h : CamIn L E d n t) (i k : Nat) (hi : k + i + 1 = t) :
    rdN (paX L E d n t i * (paH d i * paR E t i) + (paG L n t i - ((t : Int) - i - 1) * L * paH d i) * paY L E d n t i) (paH d i * paR E t i * paY L E d n t i) = paX L E d n t (i + 1) ∧
    rdD (paX L E d n t i * (paH d i * paR E t i) + (paG L n t i - ((t : Int) - i - 1) * L * paH d i) * paY L E d n t i) (paH d i * paR E t i * paY L E d n t i) = paY L E d n t (i + 1) := by
  have hp := part_at h i k hi
  have hk := part_end L E d n k _ _ _ hp h.E1 h.d1
  have hdE := h.dE
  have hH := hp.gd1
  have hR := Int.mul_pos (show 0 < 2 * (k : Int) + 1 by omega) (show 0 < E by have := h.E1; omega)
  rw [paR_is E t i k hi, paE_is L t i k hi]
  unfold paX paY
  refine add_step (paA L d n t i) (paA L d n t (i + 1)) (3465 * (d * E)) _ (paH d i * ((2 * (k : Int) + 1) * E)) (by omega) ?_ ?_
  · have := Int.mul_pos (show 0 < paH d i by omega) hR; omega
  · have e : paA L d n t (i + 1) - paA L d n t i = (dS (L * d) n - dS (L * d) (k * (L * d))) - (dS (L * d) n - dS (L * d) (paU L d n t i)) := by
      unfold paA; rw [paU_next L d n t i k hi]
    rw [e]; exact hk
theorem dS_bd2 (l u : Int) (hl : 0 ≤ l) : 0 ≤ dS l u ∧ dS l u ≤ 6508 * l := by
  have h : ∀ x, 0 ≤ md l x ∧ md l x ≤ l := fun x => by unfold md; omega
  have h0 := h u; have h1 := h (u - l); have h2 := h (u - 2 * l); have h3 := h (u - 3 * l); have h4 := h (u - 4 * l); have h5 := h (u - 5 * l)
  unfold dS; omega
theorem paU_le {L E d n : Int} {t : Nat} (h : CamIn L E d n t) (i : Nat) (hi : i ≤ t) : paU L d n t i ≤ n := by
  obtain ⟨l1, l2⟩ := h.ld
  obtain ⟨ta, tb, thi, tlo⟩ := h.ht
  have := h.n0
  unfold paU
  split
  · omega
  · rename_i hz
    have e : ((t : Int) - i) * (L * d) ≤ ((t : Int) - 1) * (L * d) := Int.mul_le_mul_of_nonneg_right (by omega) (by omega)
    rcases tlo with tlo | tlo
    · have : (t : Int) - i = 0 := by omega
      rw [this]; omega
    · omega
theorem pa_bd {L E d n : Int} {t : Nat} (h : CamIn L E d n t) (i : Nat) (hi : i ≤ t) : 0 ≤ paX L E d n t i ∧ paX L E d n t i ≤ 937152 ∧ 1 ≤ paY L E d n t i ∧ paY L E d n t i ≤ 498960 := by
  obtain ⟨l1, l2⟩ := h.ld
  have hdE := h.dE
  have hm := dS_mono (L * d) (paU L d n t i) n (paU_le h i hi)
  have h1 := dS_bd2 (L * d) n (by omega)
  have h2 := dS_bd2 (L * d) (paU L d n t i) (by omega)
  have hA : 0 ≤ paA L d n t i ∧ paA L d n t i ≤ 937152 := by unfold paA; omega
  obtain ⟨x1, x2, x3, _, _⟩ := rd_bd (paA L d n t i) (3465 * (d * E)) (by omega)
  have x3 := x3 hA.1
  unfold paX paY
  omega
structure PaB (L E d n : Int) (t i : Nat) : Prop where
  g0 : 0 ≤ paG L n t i
  g1 : paG L n t i ≤ 864
  h1 : 1 ≤ paH d i
  h2 : paH d i ≤ 12
  r1 : 1 ≤ paR E t i
  r2 : paR E t i ≤ 132
  e0 : 0 ≤ ((t : Int) - i - 1) * L
  e1 : ((t : Int) - i - 1) * L ≤ 60
  f0 : 0 ≤ ((t : Int) - i - 1) * L * paH d i
  f1 : ((t : Int) - i - 1) * L * paH d i ≤ 720
  m0 : 0 ≤ paG L n t i - ((t : Int) - i - 1) * L * paH d i
  u1 : 1 ≤ paH d i * paR E t i
  u2 : paH d i * paR E t i ≤ 1584
theorem pa_b {L E d n : Int} {t : Nat} (h : CamIn L E d n t) (i k : Nat) (hi : k + i + 1 = t) : PaB L E d n t i := by
  obtain ⟨l1, l2⟩ := h.ld
  have hp := part_at h i k hi
  have hn2 := h.n2
  obtain ⟨L1, L2, E1, E2, d1, d2, n0, ht⟩ := h
  obtain ⟨ta, tb, thi, tlo⟩ := ht
  have hH : 1 ≤ paH d i ∧ paH d i ≤ 12 := by unfold paH; split <;> omega
  have hR : 1 ≤ paR E t i ∧ paR E t i ≤ 132 := by
    rw [paR_is E t i k hi]
    have := Int.mul_pos (show 0 < 2 * (k : Int) + 1 by omega) (show 0 < E by omega)
    have := mul_le2 (2 * (k : Int) + 1) E 11 12 (by omega) (by omega) (by omega) E2
    omega
  have hE := paE_is L t i k hi
  have hkL := mul_le2 (k : Int) L 5 12 (by omega) (by omega) (by omega) L2
  have hkLh := mul_le2 ((k : Int) * L) (paH d i) 60 12 hkL.1 hkL.2 (by omega) hH.2
  have hu := mul_le2 (paH d i) (paR E t i) 12 132 (by omega) hH.2 (by omega) hR.2
  have hu1 := Int.mul_pos (show 0 < paH d i by omega) (show 0 < paR E t i by omega)
  have hg : 0 ≤ paG L n t i ∧ paG L n t i ≤ 864 := by
    unfold paG
    split
    · omega
    · have := mul_le2 ((t : Int) - i) L 6 12 (by omega) (by omega) (by omega) L2
      omega
  have hm : 0 ≤ paG L n t i - (k : Int) * L * paH d i := by
    refine Decidable.byContradiction fun hc => ?_
    have h1 := Int.mul_neg_of_neg_of_pos (show paG L n t i - (k : Int) * L * paH d i < 0 by omega) (show 0 < d by omega)
    rw [Int.sub_mul, hp.eq] at h1
    have h2 := Int.mul_le_mul_of_nonneg_right hp.lo (show 0 ≤ paH d i by omega)
    have e5 : (k : Int) * L * paH d i * d = k * (L * d) * paH d i := by ac_rfl
    omega
  rw [← hE] at hkL hkLh hm
  exact ⟨hg.1, hg.2, hH.1, hH.2, hR.1, hR.2, hkL.1, by omega, hkLh.1, by omega, hm, by omega, by omega⟩
theorem pa_fur {L E d n : Int} {t : Nat} (h : CamIn L E d n t) (i k : Nat) (hi : k + i + 1 = t) :
    FurBd (paX L E d n t i) (paY L E d n t i) (paG L n t i - ((t : Int) - i - 1) * L * paH d i) (paH d i * paR E t i) := by
  obtain ⟨a1, a2, a3, a4⟩ := pa_bd h i (by omega)
  obtain ⟨g0, g1, h1, h2, r1, r2, e0, e1, f0, f1, m0, u1, u2⟩ := pa_b h i k hi
  have c1 := mul_le2 (paX L E d n t i) (paH d i * paR E t i) 937152 1584 a1 a2 (by omega) u2
  have c2 := mul_le2 (paG L n t i - ((t : Int) - i - 1) * L * paH d i) (paY L E d n t i) 864 498960 m0 (by omega) (by omega) a4
  have c3 := mul_le2 (paH d i * paR E t i) (paY L E d n t i) 1584 498960 (by omega) u2 (by omega) a4
  have c4 := Int.mul_pos (show 0 < paH d i * paR E t i by omega) (show 0 < paY L E d n t i by omega)
  exact ⟨by omega, by omega, by omega, by omega, by omega⟩
/-- The numbers of a way in those of the parts. -/
theorem wy_eq (L E d n p q : Int) (A : Int) : p * (3465 * (d * E)) = d * 3465 * p * E := by ac_rfl
/-- The way is no farther than goods last: told by the model, and by the program. -/
theorem far_iff {L E d n : Int} {t : Nat} (h : CamIn L E d n t) (p q : Int) (hq : 1 ≤ q) :
    (p * paY L E d n t t ≤ paX L E d n t t * q) ↔ 0 ≤ dS (L * (d * q)) (q * n) - d * 3465 * p * E := by
  obtain ⟨l1, l2⟩ := h.ld
  have hdE := h.dE
  unfold paX paY
  rw [rd_le _ _ _ _ (by omega), wy_eq L E d n p q 0, show L * (d * q) = q * (L * d) by ac_rfl, dS_scale _ _ _ (by omega)]
  have e : paA L d n t t = dS (L * d) n := by
    have ht := h.ht.a
    unfold paA paU
    rw [if_neg (by omega), show (t : Int) - t = 0 by omega, Int.zero_mul]
    have := (dS_bd2 (L * d) 0 (by omega)).1
    have h0 := dS_whole (L * d) 0 (by omega) l1
    simp [dC] at h0
    omega
  rw [e, Int.mul_comm q]
  omega
/-- What is left, by the last part that begins no farther than the way. -/
theorem left_low {L E d n : Int} {t : Nat} (h : CamIn L E d n t) (p q : Int) (hq : 1 ≤ q) (i k : Nat) (hi : k + i + 1 = t)
    (h1 : paX L E d n t i * q ≤ p * paY L E d n t i) (h2 : p * paY L E d n t (i + 1) ≤ paX L E d n t (i + 1) * q) :
    (lowB (rdN (paG L n t i * paY L E d n t i + paR E t i * paX L E d n t i * paH d i) (paY L E d n t i * paH d i) * q - paR E t i * p * rdD (paG L n t i * paY L E d n t i + paR E t i * paX L E d n t i * paH d i) (paY L E d n t i * paH d i)) (rdD (paG L n t i * paY L E d n t i + paR E t i * paX L E d n t i * paH d i) (paY L E d n t i * paH d i) * q) = lowB (leftAtX L E n d p q) (leftAtM L E n d p q)) ∧
    (lowN (rdN (paG L n t i * paY L E d n t i + paR E t i * paX L E d n t i * paH d i) (paY L E d n t i * paH d i) * q - paR E t i * p * rdD (paG L n t i * paY L E d n t i + paR E t i * paX L E d n t i * paH d i) (paY L E d n t i * paH d i)) (rdD (paG L n t i * paY L E d n t i + paR E t i * paX L E d n t i * paH d i) (paY L E d n t i * paH d i) * q) = lowN (leftAtX L E n d p q) (leftAtM L E n d p q)) ∧
    (lowD (rdN (paG L n t i * paY L E d n t i + paR E t i * paX L E d n t i * paH d i) (paY L E d n t i * paH d i) * q - paR E t i * p * rdD (paG L n t i * paY L E d n t i + paR E t i * paX L E d n t i * paH d i) (paY L E d n t i * paH d i)) (rdD (paG L n t i * paY L E d n t i + paR E t i * paX L E d n t i * paH d i) (paY L E d n t i * paH d i) * q) = lowD (leftAtX L E n d p q) (leftAtM L E n d p q)) := by
  obtain ⟨l1, l2⟩ := h.ld
  have hdE := h.dE
  have hp := part_at h i k hi
  have hd := h.d1
  obtain ⟨a1, a2, a3, a4⟩ := pa_bd h i (by omega)
  have hB : 1 ≤ paY L E d n t i * paH d i := by have := Int.mul_pos (show 0 < paY L E d n t i by omega) (show 0 < paH d i by have := hp.gd1; omega); omega
  have ho := once_low (paG L n t i * paY L E d n t i + paR E t i * paX L E d n t i * paH d i) (paY L E d n t i * paH d i) q (paR E t i * p) hB hq
  have hx : paX L E d n t i * (3465 * (d * E)) = paA L d n t i * paY L E d n t i := rd_eq _ _ (by omega)
  have hl : L * (d * q) = q * (L * d) := by ac_rfl
  have f1 : paA L d n t i * q ≤ p * (3465 * (d * E)) := (rd_ge _ _ _ _ (by omega)).1 h1
  have f2 : p * (3465 * (d * E)) ≤ paA L d n t (i + 1) * q := (rd_le _ _ _ _ (by omega)).1 h2
  rw [wy_eq L E d n p q 0] at f1 f2
  have hA1 : paA L d n t i = dS (L * d) n - dS (L * d) (paU L d n t i) := rfl
  have hA2 : paA L d n t (i + 1) = dS (L * d) n - dC k * (L * d) := by
    unfold paA; rw [paU_next L d n t i k hi, dS_whole _ k (by have := hp.k6; omega) l1]
  have hU : dS (L * d) (paU L d n t i) ≤ dC (k + 1) * (L * d) := by
    rw [← dS_whole (L * d) (k + 1) (by have := hp.k6; omega) l1]
    exact dS_mono _ _ _ (by simpa using hp.hi)
  have g0 : dC k * (L * (d * q)) ≤ dS (L * (d * q)) (q * n) - d * 3465 * p * E := by
    rw [hl, dS_scale _ _ _ (by omega)]
    rw [hA2, Int.sub_mul] at f2
    have e1 : dC k * (q * (L * d)) = dC k * (L * d) * q := by ac_rfl
    rw [e1, Int.mul_comm q]
    omega
  have g1 : dS (L * (d * q)) (q * n) - d * 3465 * p * E ≤ dC (k + 1) * (L * (d * q)) := by
    rw [hl, dS_scale _ _ _ (by omega)]
    rw [hA1, Int.sub_mul] at f1
    have e1 : dC (k + 1) * (q * (L * d)) = dC (k + 1) * (L * d) * q := by ac_rfl
    have e2 := Int.mul_le_mul_of_nonneg_right hU (show 0 ≤ q by omega)
    rw [e1, Int.mul_comm q]
    omega
  have hv := lef_low L E d n q p k _ _ _ (paX L E d n t i) (paY L E d n t i) hp hd hq a3 hx g0 g1
  rw [← paR_is E t i k hi] at hv
  unfold leftAtX leftAtM
  exact ⟨ho.1.trans hv.1, ho.2.1.trans hv.2.1, ho.2.2.trans hv.2.2⟩
theorem way_eq (x g y H q r d E c qk U Ai p : Int) (hr : r = c * E) (hq : c * qk = 3465) (hx : x * (3465 * (d * E)) = Ai * y) (eq : g * d = U * H) :
    ((x * (H * r) + g * y) * (q * r) - p * (H * r * y)) * (d * q * 3465 * E) = (q * Ai + qk * (q * U - d * p)) * (H * r * y * (q * r)) := by
  subst hr
  have t1 : x * (H * (c * E)) * (q * (c * E)) * (d * q * 3465 * E) = q * Ai * (H * (c * E) * y * (q * (c * E))) := by
    have e : x * (H * (c * E)) * (q * (c * E)) * (d * q * 3465 * E) = (x * (3465 * (d * E))) * (H * (c * E) * (q * (c * E)) * q) := by ac_rfl
    rw [e, hx]; ac_rfl
  have t2 : g * y * (q * (c * E)) * (d * q * 3465 * E) = qk * (q * U) * (H * (c * E) * y * (q * (c * E))) := by
    have e : g * y * (q * (c * E)) * (d * q * 3465 * E) = (g * d) * (y * (q * (c * E)) * q * 3465 * E) := by ac_rfl
    have e' : qk * (q * U) * (H * (c * E) * y * (q * (c * E))) = (c * qk) * (q * U * (H * E * y * (q * (c * E)))) := by ac_rfl
    rw [e, eq, e', hq]; ac_rfl
  have t3 : p * (H * (c * E) * y) * (d * q * 3465 * E) = qk * (d * p) * (H * (c * E) * y * (q * (c * E))) := by
    have e' : qk * (d * p) * (H * (c * E) * y * (q * (c * E))) = (c * qk) * (d * p * (H * E * y * (q * (c * E)))) := by ac_rfl
    rw [e', hq]; ac_rfl
  rw [Int.sub_mul, Int.add_mul, Int.add_mul, Int.add_mul, Int.mul_sub, Int.sub_mul, t1, t2, t3]
  omega
/-- The way that leaves just so much, by the part in which this is. -/
theorem way_low {L E d n : Int} {t : Nat} (h : CamIn L E d n t) (p q : Int) (hq : 1 ≤ q) (i k : Nat) (hi : k + i + 1 = t)
    (h1 : k * (L * (d * q)) ≤ d * p) (h2 : d * p ≤ (k + 1) * (L * (d * q))) (A B : Int) (hA : A = paX L E d n t i * (paH d i * paR E t i) + paG L n t i * paY L E d n t i) (hB : B = paH d i * paR E t i * paY L E d n t i) :
    (lowB (rdN A B * q * paR E t i - p * rdD A B) (rdD A B * q * paR E t i) = lowB (wayWithX L E n d p q) (wayWithM L E n d p q)) ∧
    (lowN (rdN A B * q * paR E t i - p * rdD A B) (rdD A B * q * paR E t i) = lowN (wayWithX L E n d p q) (wayWithM L E n d p q)) ∧
    (lowD (rdN A B * q * paR E t i - p * rdD A B) (rdD A B * q * paR E t i) = lowD (wayWithX L E n d p q) (wayWithM L E n d p q)) := by
  obtain ⟨l1, l2⟩ := h.ld
  have hdE := h.dE
  have hd := h.d1
  have hE := h.E1
  have hp := part_at h i k hi
  obtain ⟨a1, a2, a3, a4⟩ := pa_bd h i (by omega)
  obtain ⟨g0, g1, y1, y2, r1, r2, e0, e1, f0, f1, m0, u1, u2⟩ := pa_b h i k hi
  have hBp : 1 ≤ B := by rw [hB]; have := Int.mul_pos (show 0 < paH d i * paR E t i by omega) (show 0 < paY L E d n t i by omega); omega
  have hqr := Int.mul_pos (show 0 < q by omega) (show 0 < paR E t i by omega)
  have ho := once_low A B (q * paR E t i) p hBp (by omega)
  have hx : paX L E d n t i * (3465 * (d * E)) = paA L d n t i * paY L E d n t i := rd_eq _ _ (by omega)
  have hl : L * (d * q) = q * (L * d) := by ac_rfl
  have hl1 : 1 ≤ L * (d * q) := by rw [hl]; have := Int.mul_pos (show 0 < q by omega) (show 0 < L * d by omega); omega
  obtain ⟨k6, _, lo, hi', gd1, eq⟩ := hp
  obtain ⟨s1, s2⟩ := dS_at (L * d) (paU L d n t i) k k6 l1 lo hi'
  obtain ⟨s3, _⟩ := dS_at (L * (d * q)) (d * p) k k6 hl1 h1 h2
  have hX : wayWithX L E n d p q = q * paA L d n t i + qd k * (q * paU L d n t i - d * p) := by
    unfold wayWithX
    rw [s3, hl, dS_scale _ _ _ (by omega)]
    have e1 : dS (L * d) n = paA L d n t i + (dC k * (L * d) + qd k * (paU L d n t i - k * (L * d))) := by unfold paA; rw [s1]; omega
    rw [e1]
    have e2 : dC k * (q * (L * d)) = q * (dC k * (L * d)) := by ac_rfl
    have e3 : qd k * (d * p - k * (q * (L * d))) = qd k * (d * p) - q * (qd k * (k * (L * d))) := by rw [Int.mul_sub]; congr 1; ac_rfl
    have e4 : qd k * (q * paU L d n t i - d * p) = q * (qd k * paU L d n t i) - qd k * (d * p) := by rw [Int.mul_sub]; congr 1; ac_rfl
    rw [e2, e3, e4]
    simp only [Int.mul_add, Int.mul_sub]
    omega
  have hM1 : 1 ≤ wayWithM L E n d p q := by
    unfold wayWithM
    have := Int.mul_pos (Int.mul_pos (Int.mul_pos (show 0 < d by omega) (show 0 < q by omega)) (show (0 : Int) < 3465 by omega)) (show 0 < E by omega); omega
  have hB2 := Int.mul_pos (show 0 < B by omega) hqr
  have hc := lw_cross (A * (q * paR E t i) - p * B) (B * (q * paR E t i)) (wayWithX L E n d p q) (wayWithM L E n d p q) (by omega) hM1 (by
    rw [hX, hA, hB]; unfold wayWithM
    exact way_eq _ _ _ _ q _ d E (2 * (k : Int) + 1) (qd k) _ _ p (paR_is E t i k hi) s2 hx eq)
  have e1 : rdN A B * q * paR E t i = rdN A B * (q * paR E t i) := Int.mul_assoc _ _ _
  have e2 : rdD A B * q * paR E t i = rdD A B * (q * paR E t i) := Int.mul_assoc _ _ _
  rw [e1, e2]
  exact ⟨ho.1.trans hc.1, ho.2.1.trans hc.2.1, ho.2.2.trans hc.2.2⟩
/-- More than the goods is left nowhere. -/
theorem way_more {L E d n : Int} {t : Nat} (h : CamIn L E d n t) (p q : Int) (hq : 1 ≤ q) (hp : n * q < p * d) (h6 : d * p ≤ 6 * (L * (d * q))) : wayWithX L E n d p q < 0 := by
  obtain ⟨l1, l2⟩ := h.ld
  have hl : L * (d * q) = q * (L * d) := by ac_rfl
  have hl1 : 1 ≤ L * (d * q) := by rw [hl]; have := Int.mul_pos (show 0 < q by omega) (show 0 < L * d by omega); omega
  have hn0 : 0 ≤ q * n := Int.mul_nonneg (by omega) h.n0
  have hnq : q * n < d * p := by rw [Int.mul_comm q, Int.mul_comm d]; exact hp
  have inj : ∀ u, 0 ≤ u → u ≤ 6 * (L * (d * q)) → eS (L * (d * q)) (dS (L * (d * q)) u) = 3465 * u := by
    intro u hu hu6
    obtain ⟨k, hk, c1, c2⟩ : ∃ k : Nat, k < 6 ∧ k * (L * (d * q)) ≤ u ∧ u ≤ (k + 1) * (L * (d * q)) := by
      generalize L * (d * q) = l at *
      by_cases h1 : u ≤ l; · exact ⟨0, by omega, by simp; omega, by simp; omega⟩
      by_cases h2 : u ≤ 2 * l; · exact ⟨1, by omega, by simp; omega, by simp; omega⟩
      by_cases h3 : u ≤ 3 * l; · exact ⟨2, by omega, by simp; omega, by simp; omega⟩
      by_cases h4 : u ≤ 4 * l; · exact ⟨3, by omega, by simp; omega, by simp; omega⟩
      by_cases h5 : u ≤ 5 * l; · exact ⟨4, by omega, by simp; omega, by simp; omega⟩
      exact ⟨5, by omega, by simp; omega, by simp; omega⟩
    obtain ⟨s1, s2⟩ := dS_at _ u k hk hl1 c1 c2
    have w1 := dS_whole (L * (d * q)) k (by omega) hl1
    have w2 := dS_whole (L * (d * q)) (k + 1) (by omega) hl1
    have m1 := dS_mono (L * (d * q)) _ _ c1
    have m2 := dS_mono (L * (d * q)) _ _ c2
    have e1 : ((k + 1 : Nat) : Int) * (L * (d * q)) = ((k : Int) + 1) * (L * (d * q)) := by simp
    rw [e1] at w2
    rw [eS_at _ _ k hk hl1 (by omega) (by omega), s1]
    have e3 : (2 * (k : Int) + 1) * (dC k * (L * (d * q)) + qd k * (u - k * (L * (d * q))) - dC k * (L * (d * q))) = (2 * (k : Int) + 1) * qd k * (u - k * (L * (d * q))) := by
      rw [Int.mul_assoc]; congr 1; omega
    rw [e3, s2, Int.mul_sub, Int.mul_assoc]; omega
  have i1 := inj (q * n) hn0 (by omega)
  have i2 := inj (d * p) (by omega) h6
  have hm := dS_mono (L * (d * q)) (q * n) (d * p) (by omega)
  unfold wayWithX
  refine Decidable.byContradiction fun hc => ?_
  have e : dS (L * (d * q)) (q * n) = dS (L * (d * q)) (d * p) := by omega
  rw [e, i2] at i1
  omega
/-- Goods for a way: the step, with t trips, from the goods U on. -/
theorem gf_next {L E d n : Int} {t : Nat} (h : CamIn L E d n t) (k : Nat) (U gn gd : Int) (hp : PartAt L d n k U gn gd) (A : Int) (hA : A = dS (L * d) U - dS (L * d) n) :
    rdN (rdN A (3465 * (d * E)) * (gd * ((2 * (k : Int) + 1) * E)) + (((k : Int) + 1) * L * gd - gn) * rdD A (3465 * (d * E))) (gd * ((2 * (k : Int) + 1) * E) * rdD A (3465 * (d * E))) = rdN (dS (L * d) (((k : Int) + 1) * (L * d)) - dS (L * d) n) (3465 * (d * E)) ∧
    rdD (rdN A (3465 * (d * E)) * (gd * ((2 * (k : Int) + 1) * E)) + (((k : Int) + 1) * L * gd - gn) * rdD A (3465 * (d * E))) (gd * ((2 * (k : Int) + 1) * E) * rdD A (3465 * (d * E))) = rdD (dS (L * d) (((k : Int) + 1) * (L * d)) - dS (L * d) n) (3465 * (d * E)) := by
  subst hA
  have hdE := h.dE
  have hR := Int.mul_pos (show 0 < 2 * (k : Int) + 1 by omega) (show 0 < E by have := h.E1; omega)
  refine add_step _ _ _ _ _ (by omega) ?_ (part_more L E d n k U gn gd hp h.E1 h.d1)
  have := Int.mul_pos (show 0 < gd by have := hp.gd1; omega) hR; omega
/-- The way is no farther than to where k + 1 loads are: told by the model, and by the program. -/
theorem gf_iff {L E d n : Int} {t : Nat} (h : CamIn L E d n t) (k : Nat) (hk : k < 6) (p q : Int) (hq : 1 ≤ q) :
    (p * rdD (dS (L * d) (((k : Int) + 1) * (L * d)) - dS (L * d) n) (3465 * (d * E)) ≤ rdN (dS (L * d) (((k : Int) + 1) * (L * d)) - dS (L * d) n) (3465 * (d * E)) * q) ↔
      dS (L * (d * q)) (q * n) + d * 3465 * p * E ≤ dC (k + 1) * (L * (d * q)) := by
  obtain ⟨l1, l2⟩ := h.ld
  have hdE := h.dE
  rw [rd_le _ _ _ _ (by omega), wy_eq L E d n p q 0, show L * (d * q) = q * (L * d) by ac_rfl, dS_scale _ _ _ (by omega)]
  have e0 : ((k : Int) + 1) * (L * d) = ((k + 1 : Nat) : Int) * (L * d) := by simp
  rw [e0, dS_whole (L * d) (k + 1) (by omega) l1, Int.sub_mul, Int.mul_comm q (dS (L * d) n)]
  have e1 : dC (k + 1) * (q * (L * d)) = dC (k + 1) * (L * d) * q := by ac_rfl
  rw [e1]
  omega
/-- What the model makes of goods and way there. -/
theorem gf_low {L E d n : Int} {t : Nat} (h : CamIn L E d n t) (k : Nat) (U gn gd : Int) (hp : PartAt L d n k U gn gd) (A : Int) (hA : A = dS (L * d) U - dS (L * d) n) (p q R : Int) (hq : 1 ≤ q) (hR : R = (2 * (k : Int) + 1) * E)
    (h0 : dC k * (L * (d * q)) ≤ dS (L * (d * q)) (q * n) + d * 3465 * p * E) (h1 : dS (L * (d * q)) (q * n) + d * 3465 * p * E ≤ dC (k + 1) * (L * (d * q))) (S T : Int)
    (hS : S = gn * rdD A (3465 * (d * E)) + -R * rdN A (3465 * (d * E)) * gd) (hT : T = rdD A (3465 * (d * E)) * gd) :
    lowB (rdN S T * q + R * p * rdD S T) (rdD S T * q) = lowB (goodsForX L E n d p q) (goodsForM L E n d p q) ∧
    lowN (rdN S T * q + R * p * rdD S T) (rdD S T * q) = lowN (goodsForX L E n d p q) (goodsForM L E n d p q) ∧
    lowD (rdN S T * q + R * p * rdD S T) (rdD S T * q) = lowD (goodsForX L E n d p q) (goodsForM L E n d p q) := by
  have hdE := h.dE
  have hD := (rd_bd A (3465 * (d * E)) (by omega)).1
  have hT1 : 1 ≤ T := by rw [hT]; have := Int.mul_pos (show 0 < rdD A (3465 * (d * E)) by omega) (show 0 < gd by have := hp.gd1; omega); omega
  have hx : rdN A (3465 * (d * E)) * (3465 * (d * E)) = A * rdD A (3465 * (d * E)) := rd_eq _ _ (by omega)
  have ep : d * 3465 * -p * E = -(d * 3465 * p * E) := by simp [Int.mul_neg, Int.neg_mul]
  have ho := once_low S T q (-(R * p)) hT1 hq
  have e1 : rdN S T * q - -(R * p) * rdD S T = rdN S T * q + R * p * rdD S T := by rw [Int.neg_mul]; omega
  rw [e1] at ho
  have hv := lef_low L E d n q (-p) k U gn gd (-rdN A (3465 * (d * E))) (rdD A (3465 * (d * E))) hp h.d1 hq hD (by
    rw [Int.neg_mul, hx, ← Int.neg_mul]; congr 1; omega) (by rw [ep]; omega) (by rw [ep]; omega)
  rw [ep] at hv
  have e2 : dS (L * (d * q)) (q * n) - -(d * 3465 * p * E) = dS (L * (d * q)) (q * n) + d * 3465 * p * E := by omega
  rw [e2] at hv
  rw [← hR] at hv
  have e3 : (gn * rdD A (3465 * (d * E)) + R * -rdN A (3465 * (d * E)) * gd) * q - R * -p * (rdD A (3465 * (d * E)) * gd) = S * q - -(R * p) * T := by
    rw [hS, hT]; simp [Int.mul_neg, Int.neg_mul]
  have e4 : rdD A (3465 * (d * E)) * gd * q = T * q := by rw [hT]
  rw [e3, e4] at hv
  unfold goodsForX goodsForM
  exact ⟨ho.1.trans hv.1, ho.2.1.trans hv.2.1, ho.2.2.trans hv.2.2⟩
/-- The parts ahead of the way. -/
theorem gf_part {L E d n : Int} {t : Nat} (h : CamIn L E d n t) (k : Nat) (hk : k < 6) (ht : t ≤ k) : PartAt L d n k (k * (L * d)) (k * L) 1 := by
  obtain ⟨l1, l2⟩ := h.ld
  exact ⟨hk, l1, Int.le_refl _, by rw [Int.add_mul]; omega, by omega, by rw [Int.mul_one, Int.mul_assoc]⟩
theorem gf_first {L E d n : Int} {t : Nat} (h : CamIn L E d n t) (k : Nat) (hk : k + 1 = t) : PartAt L d n k n n d := by
  have := part_at h 0 k (by omega)
  simpa [paU, paG, paH] using this
end Go.Proofs.Ytgpbkjakmbmccaa
