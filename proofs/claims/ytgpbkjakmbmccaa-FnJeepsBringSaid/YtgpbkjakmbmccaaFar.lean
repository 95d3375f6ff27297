/- How far a jeep comes, and the least fuel for a way: plain facts (no program). -/
import Derived.Test.YtgpbkjakmbmccaaMath
import Derived.Test.YtgpbkjakmbmccaaLow
namespace Go.Proofs.Ytgpbkjakmbmccaa
open Go.RowKit

/-- The odd harmonic sums of 0 to 11, and half the harmonic sums. -/
def tabO : List (Int × Int) := [(0, 1), (1, 1), (4, 3), (23, 15), (176, 105), (563, 315), (6508, 3465), (88069, 45045), (91072, 45045), (1593269, 765765), (31037876, 14549535), (31730711, 14549535)]
def tabB : List (Int × Int) := [(0, 1), (1, 2), (3, 4), (11, 12), (25, 24), (137, 120), (49, 40), (363, 280), (761, 560), (7129, 5040), (7381, 5040), (83711, 55440)]
def rP (j : Int) (k : Nat) : Int × Int := if j = 1 then (tabO[k]?).getD (0, 1) else (tabB[k]?).getD (0, 1)
def OkJ (j : Int) : Prop := j = 1 ∨ j = 2

def rpOk (j : Int) (k : Nat) : Bool := decide (0 ≤ (rP j k).1) && decide ((rP j k).1 ≤ 31730711) && decide (1 ≤ (rP j k).2) && decide ((rP j k).2 ≤ 14549535) && amB (rP j k).1 (rP j k).2
theorem rp1 : ∀ k, k < 12 → rpOk 1 k = true := by decide +kernel
theorem rp2 : ∀ k, k < 12 → rpOk 2 k = true := by decide +kernel
structure RpBd (j : Int) (k : Nat) : Prop where
  a : 0 ≤ (rP j k).1
  b : (rP j k).1 ≤ 31730711
  c : 1 ≤ (rP j k).2
  d : (rP j k).2 ≤ 14549535
  am : amB (rP j k).1 (rP j k).2 = true
theorem rp_bd (j : Int) (k : Nat) (h : OkJ j) (hk : k < 12) : RpBd j k := by
  have hs : rpOk j k = true := by
    rcases h with rfl | rfl
    · exact rp1 k hk
    · exact rp2 k hk
  simp only [rpOk, Bool.and_eq_true, decide_eq_true_eq] at hs
  exact ⟨hs.1.1.1.1, hs.1.1.1.2, hs.1.1.2, hs.1.2, hs.2⟩
theorem rp_zero (j : Int) : rP j 0 = (0, 1) := by unfold rP; split <;> rfl

/-- The fraction of the way: k whole tanks, and r / d more. -/
def drv (j : Int) (k : Nat) : Int := 2 * (k : Int) + j
def faN (j : Int) (k : Nat) (r d : Int) : Int := (rP j k).1 * (d * drv j k) + r * (rP j k).2
def faD (j : Int) (k : Nat) (d : Int) : Int := (rP j k).2 * (d * drv j k)
theorem drv_bd (j : Int) (k : Nat) (h : OkJ j) (hk : k < 12) : 1 ≤ drv j k ∧ drv j k ≤ 24 := by
  unfold drv; rcases h with rfl | rfl <;> omega
theorem mul_le (x y a b : Int) (h0 : 0 ≤ x) (h1 : x ≤ a) (h2 : 0 ≤ y) (h3 : y ≤ b) : 0 ≤ x * y ∧ x * y ≤ a * b :=
  ⟨Int.mul_nonneg h0 h2, Int.mul_le_mul h1 h3 h2 (by omega)⟩
structure FaBd (j : Int) (k : Nat) (r q : Int) : Prop where
  a : 1 ≤ q * drv j k
  b : q * drv j k ≤ 24000000000
  c : 0 ≤ (rP j k).1 * (q * drv j k)
  d : (rP j k).1 * (q * drv j k) ≤ 761537064000000000
  e : 0 ≤ r * (rP j k).2
  f : r * (rP j k).2 ≤ 14549535000000000
  g : 1 ≤ (rP j k).2 * (q * drv j k)
  h : (rP j k).2 * (q * drv j k) ≤ 349188840000000000
theorem fa_bd (j : Int) (k : Nat) (r d : Int) (h : OkJ j) (hk : k < 12) (r0 : 0 ≤ r) (r1 : r ≤ 1000000000) (d0 : 1 ≤ d) (d1 : d ≤ 1000000000) : FaBd j k r d := by
  have hr := rp_bd j k h hk
  obtain ⟨v0, v1⟩ := drv_bd j k h hk
  have m1 := mul_le d (drv j k) 1000000000 24 (by omega) d1 (by omega) v1
  have m0 := Int.mul_pos (show 0 < d by omega) (show 0 < drv j k by omega)
  have m2 := mul_le (rP j k).1 (d * drv j k) 31730711 24000000000 hr.a hr.b (by omega) (by omega)
  have m3 := mul_le r (rP j k).2 1000000000 14549535 r0 r1 (by have := hr.c; omega) hr.d
  have m4 := mul_le (rP j k).2 (d * drv j k) 14549535 24000000000 (by have := hr.c; omega) hr.d (by omega) (by omega)
  have m5 := Int.mul_pos (show 0 < (rP j k).2 by have := hr.c; omega) m0
  exact ⟨by omega, by omega, m2.1, by omega, m3.1, by omega, by omega, by omega⟩

/-- How far with n / d. -/
def fwN (j n d : Int) : Int := faN j (n / d).toNat (n % d) d
def fwD (j n d : Int) : Int := faD j (n / d).toNat d

/-- A fraction and one that has a factor more have the same lowest terms. -/
theorem low_scale (k n d : Int) (hk : 0 < k) (hd : 1 ≤ d) : lowB (k * n) (k * d) = lowB n d ∧ lowN (k * n) (k * d) = lowN n d ∧ lowD (k * n) (k * d) = lowD n d := by
  have hg : gi (k * n) (k * d) = k * gi n d := by
    unfold gi; rw [Int.gcd_mul_left]; simp; rw [Int.natAbs_of_nonneg (by omega)]
  have e1 : k * n / gi (k * n) (k * d) = n / gi n d := by rw [hg]; exact Int.mul_ediv_mul_of_pos _ _ hk
  have e2 : k * d / gi (k * n) (k * d) = d / gi n d := by rw [hg]; exact Int.mul_ediv_mul_of_pos _ _ hk
  have p1 : (0 ≤ k * n) ↔ 0 ≤ n := by
    constructor
    · intro h
      exact Decidable.byContradiction fun hn => by have := Int.mul_neg_of_pos_of_neg hk (show n < 0 by omega); omega
    · intro h; exact Int.mul_nonneg (by omega) h
  have p2 : (1 ≤ k * d) ↔ 1 ≤ d := by
    constructor
    · intro _; exact hd
    · intro _; have := Int.mul_pos hk (show 0 < d by omega); omega
  have eB : lowB (k * n) (k * d) = lowB n d := by
    unfold lowB; rw [e1, e2]; rw [decide_eq_decide, p1, p2]
  refine ⟨eB, ?_, ?_⟩
  · unfold lowN; rw [eB, e1]
  · unfold lowD; rw [eB, e2]
/-- Lowest terms are lowest terms. -/
theorem low_cop (n d : Int) (h0 : 0 ≤ n) (h1 : 1 ≤ d) (hg : gi n d = 1) : lowB n d = decide (n ≤ 1000000000 ∧ d ≤ 1000000000) ∧ (lowB n d = true → lowN n d = n ∧ lowD n d = d) := by
  refine ⟨?_, ?_⟩
  · unfold lowB; rw [hg, Int.ediv_one, Int.ediv_one, decide_eq_decide]; omega
  · intro h; unfold lowN lowD; rw [if_pos h, if_pos h, hg]; simp

/-- The least fuel: k whole tanks are less than n / d, and the rest of the way takes drv j k. -/
def lfN (j : Int) (k : Nat) (n d : Int) : Int := (k : Int) * (d * (rP j k).2) + (n * (rP j k).2 - (rP j k).1 * d) * drv j k
def lfD (j : Int) (k : Nat) (d : Int) : Int := d * (rP j k).2
theorem gi_add (k m d : Int) : gi (k * d + m) d = gi m d := by
  unfold gi
  rw [Int.add_comm, show m + k * d = m + d * k by rw [Int.mul_comm]]
  simp
theorem gi_mul (a b d : Int) (ha : gi a d = 1) (hb : gi b d = 1) : gi (a * b) d = 1 := by
  unfold gi at *
  have h1 : Nat.Coprime a.natAbs d.natAbs := by show Nat.gcd _ _ = 1; have : Int.gcd a d = 1 := by omega
                                                exact this
  have h2 : Nat.Coprime b.natAbs d.natAbs := by show Nat.gcd _ _ = 1; have : Int.gcd b d = 1 := by omega
                                                exact this
  have h3 : Nat.Coprime (a.natAbs * b.natAbs) d.natAbs := Nat.Coprime.mul_left h1 h2
  have : Int.gcd (a * b) d = 1 := by unfold Int.gcd; rw [Int.natAbs_mul]; exact h3
  omega
theorem gi_part (a d c : Int) (h : gi a d = 1) (hc : c ∣ d) : gi a c = 1 := by
  unfold gi at *
  have h1 : Nat.Coprime a.natAbs d.natAbs := by show Nat.gcd _ _ = 1; have : Int.gcd a d = 1 := by omega
                                                exact this
  have h2 : Nat.Coprime a.natAbs c.natAbs := Nat.Coprime.coprime_dvd_right (Int.natAbs_dvd_natAbs.2 hc) h1
  have : Int.gcd a c = 1 := h2
  omega
theorem need_eq (k e num den : Int) (hk : 0 ≤ k) (he : 1 ≤ e) (hn : 0 ≤ num) (hd : 1 ≤ den) :
  lowB (k * den + num * e) den = lowB (k * (den / gi num den / gi e (den / gi num den)) + num / gi num den * (e / gi e (den / gi num den))) (den / gi num den / gi e (den / gi num den)) ∧
    lowN (k * den + num * e) den = lowN (k * (den / gi num den / gi e (den / gi num den)) + num / gi num den * (e / gi e (den / gi num den))) (den / gi num den / gi e (den / gi num den)) ∧
    lowD (k * den + num * e) den = lowD (k * (den / gi num den / gi e (den / gi num den)) + num / gi num den * (e / gi e (den / gi num den))) (den / gi num den / gi e (den / gi num den)) ∧
    (1000000000 < den / gi num den / gi e (den / gi num den) → lowB (k * den + num * e) den = false) ∧ 1 ≤ den / gi num den / gi e (den / gi num den) := by
  have hg := gi_pos num den (by omega)
  have d1 := Int.mul_ediv_cancel' (gi_dvd_right num den)
  have n1 := Int.mul_ediv_cancel' (gi_dvd_left num den)
  have hdp : 1 ≤ den / gi num den := (Int.le_ediv_iff_mul_le (by omega)).2 (by have := gi_le num den hd; omega)
  have hnp : 0 ≤ num / gi num den := Int.ediv_nonneg hn (by omega)
  have cop1 := low_coprime num den hd
  generalize gi num den = g at *
  generalize den / g = den1 at *
  generalize num / g = num1 at *
  have hc := gi_pos e den1 (by omega)
  have d2 := Int.mul_ediv_cancel' (gi_dvd_right e den1)
  have e2 := Int.mul_ediv_cancel' (gi_dvd_left e den1)
  have hdp2 : 1 ≤ den1 / gi e den1 := (Int.le_ediv_iff_mul_le (by omega)).2 (by have := gi_le e den1 hdp; omega)
  have hep : 0 ≤ e / gi e den1 := Int.ediv_nonneg (by omega) (by omega)
  have cop2 := low_coprime e den1 hdp
  have hdv : den1 / gi e den1 ∣ den1 := ⟨gi e den1, by rw [Int.mul_comm]; exact d2.symm⟩
  generalize gi e den1 = c at *
  generalize den1 / c = den2 at *
  generalize e / c = e2' at *
  have hkk : 0 < g * c := Int.mul_pos (by omega) (by omega)
  have q1 : k * den + num * e = (g * c) * (k * den2 + num1 * e2') := by
    rw [← d1, ← n1, ← d2, ← e2, Int.mul_add]
    congr 1 <;> ac_rfl
  have q2 : den = (g * c) * den2 := by rw [← d1, ← d2]; ac_rfl
  have hs := low_scale (g * c) (k * den2 + num1 * e2') den2 hkk hdp2
  rw [← q1, ← q2] at hs
  refine ⟨hs.1, hs.2.1, hs.2.2, ?_, hdp2⟩
  intro hbig
  rw [hs.1]
  have hcop : gi (k * den2 + num1 * e2') den2 = 1 := by
    rw [gi_add]
    exact gi_mul _ _ _ (gi_part _ _ _ cop1 hdv) cop2
  have hl := low_cop (k * den2 + num1 * e2') den2 (Int.add_nonneg (Int.mul_nonneg hk (by omega)) (Int.mul_nonneg hnp hep)) hdp2 hcop
  rw [hl.1]
  simp; omega
/-- What is left of whole tanks. -/
theorem am_rem (n d : Int) (h : amB n d = true) : amB (n % d) d = true := by
  have a := (amB_iff n d).1 h
  rw [amB_iff]
  have h1 : 0 ≤ n % d := Int.emod_nonneg _ (by omega)
  have h2 : n % d < d := Int.emod_lt_of_pos _ (by omega)
  refine ⟨h1, by omega, a.2.2.1, a.2.2.2.1, ?_⟩
  have := a.2.2.2.2
  unfold gi at *
  rw [gcd_emod']; exact this
/-- Is the j-th sum no greater than n / d? -/
def leR (st : Int) (j : Nat) (n d : Int) : Bool := decide ((rP st j).1 * d - n * (rP st j).2 ≤ 0)
def cntR (st n d : Int) : Nat → Nat
  | 0 => 0
  | k + 1 => if leR st (k + 1) n d = true then k + 1 else cntR st n d k
def geR (st : Int) (j : Nat) (n d : Int) : Bool := decide (0 ≤ (rP st j).1 * d - n * (rP st j).2)

theorem monoR1 : ∀ k, k < 11 → (rP 1 k).1 * (rP 1 (k + 1)).2 < (rP 1 (k + 1)).1 * (rP 1 k).2 := by decide +kernel
theorem monoR2 : ∀ k, k < 11 → (rP 2 k).1 * (rP 2 (k + 1)).2 < (rP 2 (k + 1)).1 * (rP 2 k).2 := by decide +kernel
theorem monoR (j : Int) (k : Nat) (h : OkJ j) (hk : k < 11) : (rP j k).1 * (rP j (k + 1)).2 < (rP j (k + 1)).1 * (rP j k).2 := by
  rcases h with rfl | rfl
  · exact monoR1 k hk
  · exact monoR2 k hk
theorem leR_down (st : Int) (m k : Nat) (n d : Int) (h : OkJ st ∧ m < 12) (hk : k < m) (hd : 1 ≤ d) (hle : leR st (k + 1) n d = true) : leR st k n d = true := by
  have hm : (rP st k).1 * (rP st (k + 1)).2 ≤ (rP st (k + 1)).1 * (rP st k).2 := Int.le_of_lt (monoR st k h.1 (by omega))
  have a := rp_bd st k h.1 (by omega)
  have b := rp_bd st (k + 1) h.1 (by omega)
  simp only [leR, decide_eq_true_eq] at hle ⊢
  have e : (rP st (k + 1)).1 * d ≤ n * (rP st (k + 1)).2 := by omega
  have q2 : 0 < (rP st (k + 1)).2 := by have := b.c; omega
  have q1 : 0 ≤ (rP st k).2 := by have := a.c; omega
  have s1 : (rP st k).1 * (rP st (k + 1)).2 * d ≤ (rP st (k + 1)).1 * (rP st k).2 * d := Int.mul_le_mul_of_nonneg_right hm (by omega)
  have s2 : (rP st (k + 1)).1 * d * (rP st k).2 ≤ n * (rP st (k + 1)).2 * (rP st k).2 := Int.mul_le_mul_of_nonneg_right e q1
  have s3 : (rP st k).1 * d * (rP st (k + 1)).2 ≤ n * (rP st k).2 * (rP st (k + 1)).2 := by
    have t1 : (rP st k).1 * (rP st (k + 1)).2 * d = (rP st k).1 * d * (rP st (k + 1)).2 := by ac_rfl
    have t2 : (rP st (k + 1)).1 * (rP st k).2 * d = (rP st (k + 1)).1 * d * (rP st k).2 := by ac_rfl
    have t3 : n * (rP st (k + 1)).2 * (rP st k).2 = n * (rP st k).2 * (rP st (k + 1)).2 := by ac_rfl
    omega
  have := Int.le_of_mul_le_mul_right s3 q2
  omega
theorem leR_all (st : Int) (m k : Nat) (n d : Int) (h : OkJ st ∧ m < 12) (hk : k ≤ m) (hd : 1 ≤ d) (hle : leR st k n d = true) : ∀ j, j ≤ k → leR st j n d = true := by
  induction k with
  | zero => intro j hj; have : j = 0 := by omega
            subst this; exact hle
  | succ k ih =>
    intro j hj
    by_cases e : j = k + 1
    · subst e; exact hle
    · exact ih (by omega) (leR_down st m k n d h (by omega) hd hle) j (by omega)
theorem cntR_at (st : Int) (m k : Nat) (n d : Int) (h : OkJ st ∧ m < 12) (hk : k ≤ m) (hd : 1 ≤ d) (hle : k = 0 ∨ leR st k n d = true) (hend : k = m ∨ leR st (k + 1) n d = false) : cntR st n d m = k := by
  have hup : ∀ j, k < j → j ≤ m → leR st j n d = false := by
    intro j hj hjm
    rcases hend with e | e
    · omega
    · cases hc : leR st j n d
      · rfl
      · have := leR_all st m j n d h hjm hd hc (k + 1) (by omega)
        rw [this] at e; cases e
  clear hend
  induction m with
  | zero => have : k = 0 := by omega
            subst this; rfl
  | succ m ih =>
    by_cases e : k = m + 1
    · subst e
      rcases hle with h0 | h0
      · omega
      · unfold cntR; rw [if_pos h0]
    · unfold cntR
      rw [hup (m + 1) (by omega) (by omega)]
      simp only [Bool.false_eq_true, if_false]
      have h' : OkJ st ∧ m < 12 := ⟨h.1, by omega⟩
      exact ih h' (by omega) (fun j hj hjm => hup j hj (by omega))
theorem leR_zero (st n d : Int) (hn : 0 ≤ n) : leR st 0 n d = true := by
  simp only [leR, rp_zero]; simp; omega

def crB (st : Int) (m : Nat) (n d : Int) : Bool := amB n d && geR st m n d
def crN (st : Int) (m : Nat) (n d : Int) : Int := if crB st m n d = true then (cntR st n d m : Int) else 0
end Go.Proofs.Ytgpbkjakmbmccaa
