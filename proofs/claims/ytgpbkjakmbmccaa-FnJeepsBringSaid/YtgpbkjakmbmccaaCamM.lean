/- Camels: plain facts (no program): fractions in lowest terms, how long goods last, what a way takes. -/
import Derived.Test.YtgpbkjakmbmccaaLow
namespace Go.Proofs.Ytgpbkjakmbmccaa
open Go.RowKit
set_option linter.unusedVariables false
set_option linter.unusedSimpArgs false

theorem lw_scale (k n d : Int) (hk : 0 < k) (hd : 1 ≤ d) : lowB (k * n) (k * d) = lowB n d ∧ lowN (k * n) (k * d) = lowN n d ∧ lowD (k * n) (k * d) = lowD n d := by
  have hg : gi (k * n) (k * d) = k * gi n d := by
    unfold gi; rw [Int.gcd_mul_left]; simp; rw [Int.natAbs_of_nonneg (by omega)]
  have e1 : k * n / gi (k * n) (k * d) = n / gi n d := by rw [hg]; exact Int.mul_ediv_mul_of_pos _ _ hk
  have e2 : k * d / gi (k * n) (k * d) = d / gi n d := by rw [hg]; exact Int.mul_ediv_mul_of_pos _ _ hk
  have p1 : (0 ≤ k * n) ↔ 0 ≤ n := by
    constructor
    · intro h
      exact Decidable.byContradiction fun hn => by have := Int.mul_neg_of_pos_of_neg hk (show n < 0 by omega); omega
    · intro h; exact Int.mul_nonneg (by omega) h
  have p2 : (1 ≤ k * d) ↔ 1 ≤ d := by
    constructor
    · intro _; exact hd
    · intro _; have := Int.mul_pos hk (show 0 < d by omega); omega
  have eB : lowB (k * n) (k * d) = lowB n d := by
    unfold lowB; rw [e1, e2]; rw [decide_eq_decide, p1, p2]
  refine ⟨eB, ?_, ?_⟩
  · unfold lowN; rw [eB, e1]
  · unfold lowD; rw [eB, e2]
theorem lw_cross (n1 d1 n2 d2 : Int) (h1 : 1 ≤ d1) (h2 : 1 ≤ d2) (h : n1 * d2 = n2 * d1) : lowB n1 d1 = lowB n2 d2 ∧ lowN n1 d1 = lowN n2 d2 ∧ lowD n1 d1 = lowD n2 d2 := by
  have a := lw_scale d2 n1 d1 (by omega) h1
  have b := lw_scale d1 n2 d2 (by omega) h2
  have e1 : d2 * n1 = d1 * n2 := by rw [Int.mul_comm d2, h, Int.mul_comm]
  have e2 : d2 * d1 = d1 * d2 := Int.mul_comm _ _
  rw [e1, e2] at a
  exact ⟨a.1.symm.trans b.1, a.2.1.symm.trans b.2.1, a.2.2.symm.trans b.2.2⟩
/-- Lowest terms, however great. -/
def rdN (n d : Int) : Int := n / gi n d
def rdD (n d : Int) : Int := d / gi n d
theorem gi_scale (k n d : Int) (hk : 0 ≤ k) : gi (k * n) (k * d) = k * gi n d := by
  unfold gi; rw [Int.gcd_mul_left]; simp; rw [Int.natAbs_of_nonneg hk]
theorem rd_scale (k n d : Int) (hk : 0 < k) : rdN (k * n) (k * d) = rdN n d ∧ rdD (k * n) (k * d) = rdD n d := by
  unfold rdN rdD; rw [gi_scale k n d (by omega)]
  exact ⟨Int.mul_ediv_mul_of_pos _ _ hk, Int.mul_ediv_mul_of_pos _ _ hk⟩
theorem rd_cross (n1 d1 n2 d2 : Int) (h1 : 1 ≤ d1) (h2 : 1 ≤ d2) (h : n1 * d2 = n2 * d1) : rdN n1 d1 = rdN n2 d2 ∧ rdD n1 d1 = rdD n2 d2 := by
  have a := rd_scale d2 n1 d1 (by omega)
  have b := rd_scale d1 n2 d2 (by omega)
  have e1 : d2 * n1 = d1 * n2 := by rw [Int.mul_comm d2, h, Int.mul_comm]
  have e2 : d2 * d1 = d1 * d2 := Int.mul_comm _ _
  rw [e1, e2] at a
  exact ⟨a.1.symm.trans b.1, a.2.symm.trans b.2⟩
structure RdIs (n d p q g : Int) : Prop where
  g1 : 1 ≤ g
  n1 : n = g * p
  d1 : d = g * q
  q1 : 1 ≤ q
theorem rd_is (n d : Int) (h : 1 ≤ d) : RdIs n d (rdN n d) (rdD n d) (gi n d) := by
  have hg := gi_pos n d (by omega)
  refine ⟨hg, (Int.mul_ediv_cancel' (gi_dvd_left n d)).symm, (Int.mul_ediv_cancel' (gi_dvd_right n d)).symm, ?_⟩
  exact (Int.le_ediv_iff_mul_le (by omega)).2 (by have := gi_le n d h; omega)
theorem rd_eq (n d : Int) (h : 1 ≤ d) : rdN n d * d = n * rdD n d := by
  obtain ⟨_, a, b, _⟩ := rd_is n d h
  generalize rdN n d = p at *; generalize rdD n d = q at *; generalize gi n d = g at *
  subst a; subst b; ac_rfl
theorem le_scaled (g p : Int) (hg : 1 ≤ g) (hp : 0 ≤ p) : p ≤ g * p := by
  have := Int.mul_le_mul_of_nonneg_right hg hp; omega
theorem rd_bd (n d : Int) (h : 1 ≤ d) : 1 ≤ rdD n d ∧ rdD n d ≤ d ∧ (0 ≤ n → 0 ≤ rdN n d ∧ rdN n d ≤ n) ∧ (n ≤ 0 → rdN n d ≤ 0 ∧ n ≤ rdN n d) ∧ ((n < 0) ↔ rdN n d < 0) := by
  obtain ⟨g1, a, b, q1⟩ := rd_is n d h
  generalize rdN n d = p at *; generalize rdD n d = q at *; generalize gi n d = g at *
  have hq := le_scaled g q g1 (by omega)
  have s1 : 0 ≤ p → 0 ≤ g * p := fun hp => Int.mul_nonneg (by omega) hp
  have s2 : p < 0 → g * p < 0 := fun hp => Int.mul_neg_of_pos_of_neg (by omega) hp
  have s3 : 0 ≤ p → p ≤ g * p := fun hp => le_scaled g p g1 hp
  have s4 : p ≤ 0 → g * p ≤ p := fun hp => by have := le_scaled g (-p) g1 (by omega); rw [Int.mul_neg] at this; omega
  refine ⟨q1, by omega, fun hn => ?_, fun hn => ?_, ?_⟩
  · by_cases hp : 0 ≤ p
    · exact ⟨hp, by have := s3 hp; omega⟩
    · have := s2 (by omega); omega
  · by_cases hp : p ≤ 0
    · exact ⟨hp, by have := s4 hp; omega⟩
    · have := s1 (by omega); have h5 := s3 (by omega); omega
  · constructor
    · intro hn; exact Decidable.byContradiction fun hp => by have := s1 (by omega); omega
    · intro hp; have := s2 hp; omega
/-- A fraction in lowest terms and one more, in lowest terms. -/
theorem rd_add (n d m e : Int) (hd : 1 ≤ d) (he : 1 ≤ e) : rdN (rdN n d * e + m * rdD n d) (e * rdD n d) = rdN (n * e + m * d) (e * d) ∧ rdD (rdN n d * e + m * rdD n d) (e * rdD n d) = rdD (n * e + m * d) (e * d) := by
  obtain ⟨g1, a, b, q1⟩ := rd_is n d hd
  generalize rdN n d = p at *; generalize rdD n d = q at *; generalize gi n d = g at *
  have s := rd_scale g (p * e + m * q) (e * q) (by omega)
  have e1 : g * (p * e + m * q) = n * e + m * d := by rw [a, b, Int.mul_add]; congr 1 <;> ac_rfl
  have e2 : g * (e * q) = e * d := by rw [b]; ac_rfl
  rw [e1, e2] at s
  exact ⟨s.1.symm, s.2.symm⟩
def md (l x : Int) : Int := max 0 (min x l)
def dS (l u : Int) : Int := 3465*md l u + 1155*md l (u-l) + 693*md l (u-2*l) + 495*md l (u-3*l) + 385*md l (u-4*l) + 315*md l (u-5*l)
/-- exchange, a round after the other -/
def xR (mo : Nat → Int) (a : Int) : Nat → Int
  | 0 => a
  | k + 1 => xR mo a k - min (xR mo a k) (mo k)
def xS (mo : Nat → Int) (wo : Nat → Int → Int) (a : Int) : Nat → Int
  | 0 => 0
  | k + 1 => xS mo wo a k + wo k (min (xR mo a k) (mo k))
def qd (k : Nat) : Int := 3465 / (2 * (k : Int) + 1)
def eS (l x : Int) : Int := xS (fun k => qd k * l) (fun k p => p * (2 * (k : Int) + 1)) x 6
def dC (k : Nat) : Int := match k with | 0 => 0 | 1 => 3465 | 2 => 4620 | 3 => 5313 | 4 => 5808 | 5 => 6193 | _ => 6508
theorem md_mono (l u v : Int) (h : u ≤ v) : md l u ≤ md l v := by unfold md; omega
theorem dS_mono (l u v : Int) (h : u ≤ v) : dS l u ≤ dS l v := by
  have h0 := md_mono l u v h
  have h1 := md_mono l (u - l) (v - l) (by omega)
  have h2 := md_mono l (u - 2 * l) (v - 2 * l) (by omega)
  have h3 := md_mono l (u - 3 * l) (v - 3 * l) (by omega)
  have h4 := md_mono l (u - 4 * l) (v - 4 * l) (by omega)
  have h5 := md_mono l (u - 5 * l) (v - 5 * l) (by omega)
  unfold dS; omega
theorem xR_las (l u : Int) (hl : 1 ≤ l) (hu : 0 ≤ u) : ∀ k : Nat, xR (fun _ => 3465 * l) (3465 * u) k = 3465 * max 0 (u - k * l)
  | 0 => by simp only [xR]; simp; omega
  | k + 1 => by
    simp only [xR]; rw [xR_las l u hl hu k]
    have e : ((k + 1 : Nat) : Int) * l = k * l + l := by rw [Int.natCast_add, Int.add_mul]; simp
    rw [e]
    generalize (k : Int) * l = y
    omega
theorem part_las (l z : Int) (q d : Int) (hl : 1 ≤ l) (hd : 1 ≤ d) (hq : d * q = 3465) : min (3465 * max 0 z) (3465 * l) / d = q * md l z := by
  have e : min (3465 * max 0 z) (3465 * l) = d * (q * md l z) := by
    rw [← Int.mul_assoc, hq]; unfold md; omega
  rw [e, Int.mul_ediv_cancel_left _ (by omega)]
theorem lasts_is (l u : Int) (hl : 1 ≤ l) (hu : 0 ≤ u) :
    xR (fun _ => 3465 * l) (3465 * u) 6 = 3465 * max 0 (u - 6 * l) ∧ xS (fun _ => 3465 * l) (fun k p => p / (2 * (k : Int) + 1)) (3465 * u) 6 = dS l u := by
  refine ⟨by rw [xR_las l u hl hu]; rfl, ?_⟩
  simp only [xS, xR_las l u hl hu]
  rw [part_las l _ 3465 _ hl (by omega) (by rfl), part_las l _ 1155 _ hl (by omega) (by rfl), part_las l _ 693 _ hl (by omega) (by rfl), part_las l _ 495 _ hl (by omega) (by rfl), part_las l _ 385 _ hl (by omega) (by rfl), part_las l _ 315 _ hl (by omega) (by rfl)]
  unfold dS; simp
theorem lasts_end (l u : Int) (hl : 1 ≤ l) (hu : 0 ≤ u) : (xR (fun _ => 3465 * l) (3465 * u) 6 = 0) ↔ u ≤ 6 * l := by
  rw [(lasts_is l u hl hu).1]; omega
theorem eat_end (l x : Int) (hl : 1 ≤ l) : (xR (fun k => qd k * l) x 6 = 0) ↔ x ≤ 6508 * l := by
  simp only [xR, show qd 0 = 3465 from rfl, show qd 1 = 1155 from rfl, show qd 2 = 693 from rfl, show qd 3 = 495 from rfl, show qd 4 = 385 from rfl, show qd 5 = 315 from rfl]
  omega
theorem eS_neg (l x : Int) (hl : 1 ≤ l) (h : x ≤ 0) : eS l x = x := by
  simp only [eS, xS, xR, show qd 0 = 3465 from rfl, show qd 1 = 1155 from rfl, show qd 2 = 693 from rfl, show qd 3 = 495 from rfl, show qd 4 = 385 from rfl, show qd 5 = 315 from rfl]
  omega
theorem eS_at (l x : Int) (k : Nat) (hk : k < 6) (hl : 1 ≤ l) (h0 : dC k * l ≤ x) (h1 : x ≤ dC (k + 1) * l) : eS l x = 3465 * k * l + (2 * (k : Int) + 1) * (x - dC k * l) := by
  have hc : k = 0 ∨ k = 1 ∨ k = 2 ∨ k = 3 ∨ k = 4 ∨ k = 5 := by omega
  rcases hc with rfl | rfl | rfl | rfl | rfl | rfl <;> simp only [eS, xS, xR, dC, show qd 0 = 3465 from rfl, show qd 1 = 1155 from rfl, show qd 2 = 693 from rfl, show qd 3 = 495 from rfl, show qd 4 = 385 from rfl, show qd 5 = 315 from rfl] at * <;> omega
theorem dS_at (l u : Int) (k : Nat) (hk : k < 6) (hl : 1 ≤ l) (h0 : k * l ≤ u) (h1 : u ≤ (k + 1) * l) : dS l u = dC k * l + qd k * (u - k * l) ∧ (2 * (k : Int) + 1) * qd k = 3465 := by
  have hc : k = 0 ∨ k = 1 ∨ k = 2 ∨ k = 3 ∨ k = 4 ∨ k = 5 := by omega
  rcases hc with rfl | rfl | rfl | rfl | rfl | rfl <;> simp only [dS, md, dC, show qd 0 = 3465 from rfl, show qd 1 = 1155 from rfl, show qd 2 = 693 from rfl, show qd 3 = 495 from rfl, show qd 4 = 385 from rfl, show qd 5 = 315 from rfl] at * <;> omega
theorem dS_whole (l : Int) (k : Nat) (hk : k ≤ 6) (hl : 1 ≤ l) : dS l (k * l) = dC k * l := by
  have hc : k = 0 ∨ k = 1 ∨ k = 2 ∨ k = 3 ∨ k = 4 ∨ k = 5 ∨ k = 6 := by omega
  rcases hc with rfl | rfl | rfl | rfl | rfl | rfl | rfl <;> simp only [dS, md, dC] at * <;> omega
theorem md_scale (l x m : Int) (hm : 0 ≤ m) : md (m * l) (m * x) = m * md l x := by
  unfold md
  rcases Int.le_total x l with h | h
  · rw [Int.min_eq_left h, Int.min_eq_left (Int.mul_le_mul_of_nonneg_left h hm)]
    rcases Int.le_total 0 x with h' | h'
    · rw [Int.max_eq_right h', Int.max_eq_right (Int.mul_nonneg hm h')]
    · rw [Int.max_eq_left h', Int.max_eq_left (Int.mul_nonpos_of_nonneg_of_nonpos hm h')]; simp
  · rw [Int.min_eq_right h, Int.min_eq_right (Int.mul_le_mul_of_nonneg_left h hm)]
    rcases Int.le_total 0 l with h' | h'
    · rw [Int.max_eq_right h', Int.max_eq_right (Int.mul_nonneg hm h')]
    · rw [Int.max_eq_left h', Int.max_eq_left (Int.mul_nonpos_of_nonneg_of_nonpos hm h')]; simp
theorem dS_scale (l x m : Int) (hm : 0 ≤ m) : dS (m * l) (m * x) = m * dS l x := by
  unfold dS
  rw [md_scale l x m hm, show m * x - m * l = m * (x - l) by rw [Int.mul_sub], show m * x - 2 * (m * l) = m * (x - 2 * l) by rw [Int.mul_sub]; congr 1; ac_rfl,
    show m * x - 3 * (m * l) = m * (x - 3 * l) by rw [Int.mul_sub]; congr 1; ac_rfl, show m * x - 4 * (m * l) = m * (x - 4 * l) by rw [Int.mul_sub]; congr 1; ac_rfl, show m * x - 5 * (m * l) = m * (x - 5 * l) by rw [Int.mul_sub]; congr 1; ac_rfl,
    md_scale _ _ m hm, md_scale _ _ m hm, md_scale _ _ m hm, md_scale _ _ m hm, md_scale _ _ m hm]
  simp only [Int.mul_add]
  simp only [Int.mul_left_comm m]
/-- How often a camel goes forth with u, a load being l. -/
def trp (l u : Int) : Nat := if u ≤ l then 1 else if u ≤ 2 * l then 2 else if u ≤ 3 * l then 3 else if u ≤ 4 * l then 4 else if u ≤ 5 * l then 5 else if u ≤ 6 * l then 6 else 7
theorem trp_bd (l u : Int) : 1 ≤ trp l u ∧ trp l u ≤ 7 := by
  unfold trp; repeat' split
  all_goals omega
structure TrpIs (l u : Int) (t : Nat) : Prop where
  a : 1 ≤ t
  b : t ≤ 6
  hi : u ≤ t * l
  lo : t = 1 ∨ (t - 1) * l < u
theorem trp_is (l u : Int) (h6 : u ≤ 6 * l) : TrpIs l u (trp l u) := by
  unfold trp
  split
  · exact ⟨by omega, by omega, by simpa using ‹_›, by omega⟩
  · repeat' split
    all_goals first | exact ⟨by omega, by omega, by simpa using ‹_›, by right; simp; omega⟩ | omega
theorem trp_at (l u : Int) (t : Nat) (h1 : 1 ≤ t) (h6 : t ≤ 6) (hi : u ≤ t * l) (hl : 1 ≤ l) (lo : t = 1 ∨ (t - 1) * l < u) : trp l u = t := by
  have hc : t = 1 ∨ t = 2 ∨ t = 3 ∨ t = 4 ∨ t = 5 ∨ t = 6 := by omega
  unfold trp
  rcases hc with rfl | rfl | rfl | rfl | rfl | rfl <;> simp at hi lo <;> repeat' split
  all_goals omega
theorem trp_scale (l u m : Int) (hm : 1 ≤ m) : trp (m * l) (m * u) = trp l u := by
  have e : ∀ k : Int, (m * u ≤ k * (m * l)) = (u ≤ k * l) := by
    intro k
    have q : k * (m * l) = m * (k * l) := by ac_rfl
    rw [q]
    apply propext
    constructor
    · intro h; exact Int.le_of_mul_le_mul_left h (by omega)
    · intro h; exact Int.mul_le_mul_of_nonneg_left h (by omega)
  have e1 : (m * u ≤ m * l) = (u ≤ l) := by have := e 1; simpa using this
  unfold trp
  simp only [e, e1]
theorem trp_ceil (l u : Int) (hl : 1 ≤ l) (h6 : u ≤ 6 * l) : max 1 (Int.tdiv (u + l - 1) l) = (trp l u : Int) := by
  obtain ⟨a, b, hi, lo⟩ := trp_is l u h6
  generalize trp l u = t at *
  by_cases hu : u + l - 1 < 0
  · have h0 : Int.tdiv (u + l - 1) l ≤ 0 := by
      have e : u + l - 1 = -(-(u + l - 1)) := by omega
      rw [e, Int.neg_tdiv]
      have := Int.tdiv_nonneg (a := -(u + l - 1)) (b := l) (by omega) (by omega)
      omega
    have ht : t = 1 := by
      rcases lo with h | h
      · exact h
      · have : 0 ≤ ((t : Int) - 1) * l := Int.mul_nonneg (by omega) (by omega)
        omega
    subst ht; omega
  · rw [Int.tdiv_eq_ediv_of_nonneg (by omega)]
    have h1 : (u + l - 1) / l < (t : Int) + 1 := by
      apply Int.ediv_lt_of_lt_mul (by omega)
      rw [Int.add_mul]; omega
    rcases lo with h | h
    · subst h; have h0 : 0 ≤ (u + l - 1) / l := Int.ediv_nonneg (by omega) (by omega)
      omega
    · have h2 : (t : Int) ≤ (u + l - 1) / l := by
        apply (Int.le_ediv_iff_mul_le (by omega)).2
        rw [Int.sub_mul] at h; omega
      omega
theorem tdiv_bd (y l B : Int) (hl : 1 ≤ l) (h1 : -B ≤ y) (h2 : y ≤ B) (hB : 0 ≤ B) : -B ≤ Int.tdiv y l ∧ Int.tdiv y l ≤ B := by
  by_cases h : 0 ≤ y
  · have a := Int.tdiv_nonneg (a := y) (b := l) h (by omega)
    rw [Int.tdiv_eq_ediv_of_nonneg h] at *
    have := Int.ediv_le_self l h
    omega
  · have e : y = -(-y) := by omega
    rw [e, Int.neg_tdiv]
    have a := Int.tdiv_nonneg (a := -y) (b := l) (by omega) (by omega)
    rw [Int.tdiv_eq_ediv_of_nonneg (by omega)] at *
    have := Int.ediv_le_self l (show 0 ≤ -y by omega)
    omega
/-- The bounds of the numbers of a call with goods n / d and another amount p / q. -/
structure CamBd (L E n d p q : Int) : Prop where
  m1 : 1 ≤ d * q * 3465
  m2 : d * q * 3465 ≤ 41580000000
  l1 : 1 ≤ L * (d * q)
  l2 : L * (d * q) ≤ 144000000
  u1 : 0 ≤ q * n
  u2 : q * n ≤ 864000000
  u6 : q * n ≤ 6 * (L * (d * q))
  w1 : 0 ≤ d * 3465 * p
  w2 : d * 3465 * p ≤ 41580000000000
  w3 : 0 ≤ d * 3465 * p * E
  w4 : d * 3465 * p * E ≤ 498960000000000
  e1 : q * 3465 * n = 3465 * (q * n)
  e2 : L * (d * q * 3465) = 3465 * (L * (d * q))
theorem mul_le2 (x y a b : Int) (h0 : 0 ≤ x) (h1 : x ≤ a) (h2 : 0 ≤ y) (h3 : y ≤ b) : 0 ≤ x * y ∧ x * y ≤ a * b :=
  ⟨Int.mul_nonneg h0 h2, Int.mul_le_mul h1 h3 h2 (by omega)⟩
theorem cam_bd (L E n d p q : Int) (hL : 1 ≤ L) (hL2 : L ≤ 12) (hE : 1 ≤ E) (hE2 : E ≤ 12) (hn : 0 ≤ n) (hd : 1 ≤ d) (hd2 : d ≤ 12) (hn6 : n ≤ 6 * L * d) (hp : 0 ≤ p) (hp2 : p ≤ 1000000000) (hq : 1 ≤ q) (hq2 : q ≤ 1000000) : CamBd L E n d p q := by
  have a1 := mul_le2 d q 12 1000000 (by omega) hd2 (by omega) hq2
  have a2 := Int.mul_pos (show 0 < d by omega) (show 0 < q by omega)
  have a3 := mul_le2 L (d * q) 12 12000000 (by omega) hL2 a1.1 (by omega)
  have a4 := Int.mul_pos (show 0 < L by omega) a2
  have b1 : 6 * L * d = 6 * (L * d) := Int.mul_assoc _ _ _
  have b2 := mul_le2 L d 12 12 (by omega) hL2 (by omega) hd2
  have b3 := mul_le2 q n 1000000 864 (by omega) hq2 hn (by omega)
  have b4 : q * n ≤ q * (6 * L * d) := Int.mul_le_mul_of_nonneg_left hn6 (by omega)
  have b5 : q * (6 * L * d) = 6 * (L * (d * q)) := by rw [b1, show q * (6 * (L * d)) = 6 * (L * (d * q)) by ac_rfl]
  have c1 := mul_le2 (d * 3465) p 41580 1000000000 (by omega) (by omega) hp hp2
  have c2 := mul_le2 (d * 3465 * p) E 41580000000000 12 c1.1 (by omega) (by omega) hE2
  exact ⟨by omega, by omega, by omega, by omega, b3.1, by omega, by omega, c1.1, by omega, c2.1, by omega, by ac_rfl, by ac_rfl⟩
theorem dS_bd (l u : Int) (hl : 0 ≤ l) : 0 ≤ dS l u ∧ dS l u ≤ 6508 * l := by
  have h : ∀ x, 0 ≤ md l x ∧ md l x ≤ l := fun x => by unfold md; omega
  have h0 := h u
  have h1 := h (u - l)
  have h2 := h (u - 2 * l)
  have h3 := h (u - 3 * l)
  have h4 := h (u - 4 * l)
  have h5 := h (u - 5 * l)
  unfold dS
  omega
theorem eS_bd (l x : Int) (hl : 1 ≤ l) : (x ≤ eS l x ∨ 0 ≤ eS l x) ∧ eS l x ≤ 20790 * l := by
  simp only [eS, xS, xR, show qd 0 = 3465 from rfl, show qd 1 = 1155 from rfl, show qd 2 = 693 from rfl, show qd 3 = 495 from rfl, show qd 4 = 385 from rfl, show qd 5 = 315 from rfl]
  constructor
  · by_cases h : x ≤ 0
    · left; omega
    · right; omega
  · omega
theorem keepz {W0 wp : World} {b o : Nat} {v : Bool} (h0 : Below W0.heap.size W0 wp) (hlt : b < W0.heap.size) (hc : W0.frozen? ⟨b, o, none⟩ = v) : wp.frozen? ⟨b, o, none⟩ = v := by
  rw [h0.frozen (p := ⟨b, o, none⟩) hlt]; exact hc
end Go.Proofs.Ytgpbkjakmbmccaa
