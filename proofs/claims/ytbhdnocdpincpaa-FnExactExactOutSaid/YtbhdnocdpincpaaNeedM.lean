/- The model's least fuel for a way: plain facts. -/
import Derived.Test.YtbhdnocdpincpaaLeast
namespace Go.Proofs.Ytbhdnocdpincpaa
open Go.RowKit
set_option maxRecDepth 100000
set_option linter.unusedVariables false
set_option linter.unusedSimpArgs false

theorem leR_iff (j : Int) (k : Nat) (n d : Int) : leR j k n d = true ↔ (rP j k).1 * d ≤ n * (rP j k).2 := by simp only [leR, decide_eq_true_eq]; omega
theorem leR_not (j : Int) (k : Nat) (n d : Int) : leR j k n d = false ↔ n * (rP j k).2 < (rP j k).1 * d := by
  simp only [leR, decide_eq_false_iff_not]; omega
theorem geR_iff (j : Int) (k : Nat) (n d : Int) : geR j k n d = true ↔ n * (rP j k).2 ≤ (rP j k).1 * d := by simp only [geR, decide_eq_true_eq]; omega
/-- Just as far as k tanks: less than k + 1. -/
theorem eq_next (j : Int) (k : Nat) (n d : Int) (h : OkJ j) (hk : k < 11) (hd : 1 ≤ d) (he : (rP j k).1 * d = n * (rP j k).2) : leR j (k + 1) n d = false := by
  rw [leR_not]
  have hm := monoR j k h hk
  obtain ⟨p1, p2, p3, p4, _⟩ := rp_bd j k h (by omega)
  obtain ⟨q1, q2, q3, q4, _⟩ := rp_bd j (k + 1) h (by omega)
  generalize (rP j k).1 = a at *
  generalize (rP j k).2 = b at *
  generalize (rP j (k + 1)).1 = x at *
  generalize (rP j (k + 1)).2 = y at *
  have e1 : a * y * d < x * b * d := Int.mul_lt_mul_of_pos_right hm (by omega)
  have e2 : a * y * d = n * y * b := by
    have t1 : a * y * d = a * d * y := by ac_rfl
    have t2 : n * y * b = n * b * y := by ac_rfl
    rw [t1, t2, he]
  have e3 : x * b * d = x * d * b := by ac_rfl
  rw [e2, e3] at e1
  exact Int.lt_of_mul_lt_mul_right e1 (by omega)
/-- Less than k + 1 tanks, k + 1 at most 10: within 10. -/
theorem ge_ten (j : Int) (k : Nat) (n d : Int) (h : OkJ j) (hk : k < 10) (hd : 1 ≤ d) (hn : leR j (k + 1) n d = false) : geR j 10 n d = true := by
  rw [geR_iff]
  apply Decidable.byContradiction
  intro hc
  have hl : leR j 10 n d = true := by rw [leR_iff]; omega
  have := leR_all j 10 10 n d ⟨h, by omega⟩ (Nat.le_refl _) hd hl (k + 1) (by omega)
  rw [this] at hn; cases hn
theorem need_k (j : Int) (k : Nat) (n d : Int) (h : OkJ j) (hk : k < 10) (hd : 1 ≤ d) (hle : leR j k n d = true) (hn : leR j (k + 1) n d = false) (ha : amB n d = true) : crB j 10 n d = true ∧ cntR j n d 10 = k := by
  refine ⟨?_, cntR_at j 10 k n d ⟨h, by omega⟩ (by omega) hd (Or.inr hle) (Or.inr hn)⟩
  unfold crB; rw [ha, ge_ten j k n d h hk hd hn]; rfl
/-- Just k tanks. -/
theorem need_eqk (j : Int) (k : Nat) (n d : Int) (h : OkJ j) (hk : k ≤ 10) (ha : amB n d = true) (he : (rP j k).1 * d = n * (rP j k).2) : lfB j n d = true ∧ lfX j n d = k ∧ lfY j n d = 1 := by
  obtain ⟨a1, a2, a3, a4⟩ := am_of n d ha
  obtain ⟨p1, p2, p3, p4, _⟩ := rp_bd j k h (by omega)
  have hle : leR j k n d = true := by rw [leR_iff]; omega
  have hc : crB j 10 n d = true ∧ cntR j n d 10 = k := by
    by_cases h10 : k = 10
    · subst h10
      refine ⟨?_, cntR_at j 10 10 n d ⟨h, by omega⟩ (by omega) a3 (Or.inr hle) (Or.inl rfl)⟩
      have : geR j 10 n d = true := by rw [geR_iff]; omega
      unfold crB; rw [ha, this]; rfl
    · exact need_k j k n d h (by omega) a3 hle (eq_next j k n d h (by omega) a3 he) ha
  obtain ⟨y1, y2, y3⟩ := lf_yes j n d hc.1
  rw [y1, y2, y3, hc.2]
  have hpos := Int.mul_pos (show 0 < d by omega) (show 0 < (rP j k).2 by omega)
  have e1 : lfN j k n d = (d * (rP j k).2) * (k : Int) := by
    unfold lfN
    have : n * (rP j k).2 - (rP j k).1 * d = 0 := by omega
    rw [this, Int.zero_mul, Int.add_zero, Int.mul_comm]
  have e2 : lfD j k d = (d * (rP j k).2) * 1 := by unfold lfD; rw [Int.mul_one]
  have hs := low_scale (d * (rP j k).2) (k : Int) 1 hpos (by omega)
  have hw := low_am (k : Int) 1 (am_whole (k : Int) (by omega) (by omega))
  rw [e1, e2, hs.1, hs.2.1, hs.2.2]
  exact hw
/-- Farther than all tanks. -/
theorem need_far (j : Int) (n d : Int) (hf : (rP j 10).1 * d < n * (rP j 10).2) : lfB j n d = false ∧ lfX j n d = 0 ∧ lfY j n d = 0 := by
  have : geR j 10 n d = false := by
    cases hg : geR j 10 n d
    · rfl
    · rw [geR_iff] at hg; omega
  exact lf_no j n d (by unfold crB; rw [this, Bool.and_false])
theorem need_none (j : Int) (n d : Int) (ha : amB n d = false) : lfB j n d = false ∧ lfX j n d = 0 ∧ lfY j n d = 0 :=
  lf_no j n d (by unfold crB; rw [ha, Bool.false_and])
/-- The model's fraction. -/
def ndG (n RN d RD : Int) : Int := gi (n * RD - RN * d) (d * RD)
def ndU (n RN d RD : Int) : Int := (n * RD - RN * d) / ndG n RN d RD
def ndV (n RN d RD : Int) : Int := d * RD / ndG n RN d RD
def ndC (e n RN d RD : Int) : Int := gi e (ndV n RN d RD)
def ndW (e n RN d RD : Int) : Int := ndV n RN d RD / ndC e n RN d RD
def ndE (e n RN d RD : Int) : Int := e / ndC e n RN d RD
theorem need_mid (j : Int) (k : Nat) (n d : Int) (h : OkJ j) (hk : k < 10) (ha : amB n d = true) (hle : leR j k n d = true) (hn : leR j (k + 1) n d = false) :
    lfB j n d = lowB ((k : Int) * ndW (drv j k) n (rP j k).1 d (rP j k).2 + ndU n (rP j k).1 d (rP j k).2 * ndE (drv j k) n (rP j k).1 d (rP j k).2) (ndW (drv j k) n (rP j k).1 d (rP j k).2) ∧
    lfX j n d = lowN ((k : Int) * ndW (drv j k) n (rP j k).1 d (rP j k).2 + ndU n (rP j k).1 d (rP j k).2 * ndE (drv j k) n (rP j k).1 d (rP j k).2) (ndW (drv j k) n (rP j k).1 d (rP j k).2) ∧
    lfY j n d = lowD ((k : Int) * ndW (drv j k) n (rP j k).1 d (rP j k).2 + ndU n (rP j k).1 d (rP j k).2 * ndE (drv j k) n (rP j k).1 d (rP j k).2) (ndW (drv j k) n (rP j k).1 d (rP j k).2) ∧
    (1000000000 < ndW (drv j k) n (rP j k).1 d (rP j k).2 → lfB j n d = false ∧ lfX j n d = 0 ∧ lfY j n d = 0) := by
  obtain ⟨a1, a2, a3, a4⟩ := am_of n d ha
  obtain ⟨v0, v1⟩ := drv_bd j k h (by omega)
  obtain ⟨b1, b2, b3, b4, b5, b6, b7, b8, b9, b10, b11⟩ := lf_bd j k n d h (by omega) ha hle
  obtain ⟨hc1, hc2⟩ := need_k j k n d h hk a3 hle hn ha
  obtain ⟨y1, y2, y3⟩ := lf_yes j n d hc1
  have hne := need_eq (k : Int) (drv j k) (n * (rP j k).2 - (rP j k).1 * d) (d * (rP j k).2) (by omega) v0 b9 b1
  rw [hc2] at y1 y2 y3
  unfold lfN lfD at y1 y2 y3
  refine ⟨y1.trans hne.1, y2.trans hne.2.1, y3.trans hne.2.2.1, ?_⟩
  intro hbig
  have hf := hne.2.2.2.1 hbig
  rw [hf] at y1
  rw [lowN_no _ _ hf] at y2
  rw [lowD_no _ _ hf] at y3
  exact ⟨y1, y2, y3⟩
structure NdBd (e n RN d RD : Int) : Prop where
  g1 : 1 ≤ ndG n RN d RD
  g2 : ndG n RN d RD ≤ 14549535000000000
  u1 : 0 ≤ ndU n RN d RD
  u2 : ndU n RN d RD ≤ 14549535000000000
  v1 : 1 ≤ ndV n RN d RD
  v2 : ndV n RN d RD ≤ 14549535000000000
  c1 : 1 ≤ ndC e n RN d RD
  c2 : ndC e n RN d RD ≤ 14549535000000000
  w1 : 1 ≤ ndW e n RN d RD
  w2 : ndW e n RN d RD ≤ 14549535000000000
  e1 : 0 ≤ ndE e n RN d RD
  e2 : ndE e n RN d RD ≤ 24
theorem nd_bd (e n RN d RD : Int) (e0 : 1 ≤ e) (e1 : e ≤ 24) (h0 : 0 ≤ n * RD - RN * d) (h1 : n * RD - RN * d ≤ 14549535000000000) (d0 : 1 ≤ d * RD) (d1 : d * RD ≤ 14549535000000000) : NdBd e n RN d RD := by
  have g1 : 1 ≤ ndG n RN d RD := gi_pos _ _ (by omega)
  have g2 : ndG n RN d RD ≤ d * RD := gi_le _ _ d0
  have u1 : 0 ≤ ndU n RN d RD := Int.ediv_nonneg h0 (by omega)
  have u2 : ndU n RN d RD ≤ n * RD - RN * d := Int.ediv_le_self _ h0
  have v1 : 1 ≤ ndV n RN d RD := (Int.le_ediv_iff_mul_le (by omega)).2 (by omega)
  have v2 : ndV n RN d RD ≤ d * RD := Int.ediv_le_self _ (by omega)
  have c1 : 1 ≤ ndC e n RN d RD := gi_pos _ _ (by omega)
  have c2 : ndC e n RN d RD ≤ ndV n RN d RD := gi_le _ _ v1
  have w1 : 1 ≤ ndW e n RN d RD := (Int.le_ediv_iff_mul_le (by omega)).2 (by omega)
  have w2 : ndW e n RN d RD ≤ ndV n RN d RD := Int.ediv_le_self _ (by omega)
  have f1 : 0 ≤ ndE e n RN d RD := Int.ediv_nonneg (by omega) (by omega)
  have f2 : ndE e n RN d RD ≤ e := Int.ediv_le_self _ (by omega)
  exact ⟨g1, by omega, u1, by omega, v1, by omega, c1, by omega, w1, by omega, f1, by omega⟩
end Go.Proofs.Ytbhdnocdpincpaa
