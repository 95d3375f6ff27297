/- Decimal texts: what is written is read again. -/
import Derived.Test.YtffafiidblamkaaDoorRead
import Derived.Lib.AtoiAll
namespace Go.Proofs.YtffafiidblamkaaDoor
set_option maxRecDepth 100000
set_option linter.unusedVariables false
set_option linter.unusedSimpArgs false

theorem byte_digit (d : Nat) (h : d < 10) : (UInt8.ofNat (48 + d)).toNat = 48 + d := by rw [UInt8.toNat_ofNat']; omega
theorem dg_digit (d : Nat) (h : d < 10) : dgB (UInt8.ofNat (48 + d)) = true := by unfold dgB; rw [byte_digit d h]; exact decide_eq_true ⟨by omega, by omega⟩
theorem dec_step (n : Nat) (h : ¬ n < 10) : Lib.decDigits n = Lib.decDigits (n / 10) ++ [UInt8.ofNat (48 + n % 10)] := by rw [Lib.decDigits, dif_neg h]
theorem dec_all (n : Nat) : (Lib.decDigits n).all dgB = true := by
  induction n using Nat.strongRecOn with
  | _ n ih =>
    by_cases h : n < 10
    · rw [Lib.decDigits_one h, List.all_cons, dg_digit n h]; rfl
    · rw [dec_step n h, List.all_append, ih (n / 10) (by omega), List.all_cons, dg_digit (n % 10) (Nat.mod_lt _ (by omega))]; rfl
theorem dec_val (n : Nat) : rdG (Lib.decDigits n) = n := by
  induction n using Nat.strongRecOn with
  | _ n ih =>
    by_cases h : n < 10
    · rw [Lib.decDigits_one h]
      show 10 * 0 + (((UInt8.ofNat (48 + n)).toNat : Int) - 48) = n
      rw [byte_digit n h]; omega
    · rw [dec_step n h, rdG_snoc, ih (n / 10) (by omega), byte_digit _ (Nat.mod_lt _ (by omega))]; omega
theorem dec_ne (n : Nat) : Lib.decDigits n ≠ [] := by
  rw [Lib.decDigits]; split <;> simp
theorem dec_head (n : Nat) : 1 ≤ n → (Lib.decDigits n).head? ≠ some 48 := by
  induction n using Nat.strongRecOn with
  | _ n ih =>
    intro h1
    by_cases h : n < 10
    · rw [Lib.decDigits_one h]
      intro e
      have e : UInt8.ofNat (48 + n) = 48 := by simpa using e
      have := congrArg UInt8.toNat e
      rw [byte_digit n h] at this
      have e48 : (48 : UInt8).toNat = 48 := rfl
      omega
    · rw [dec_step n h, List.head?_append]
      have := ih (n / 10) (by omega) (by omega)
      cases hh : (Lib.decDigits (n / 10)).head? with
      | none => exact absurd (List.head?_eq_none_iff.1 hh) (dec_ne _)
      | some x => rw [hh] at this; simpa using this
/-- Every number below a million is read from its text. -/
theorem dec_read (n : Nat) (h : n ≤ 999999) : rdB (Lib.decDigits n) = true := by
  have hl := dec_len 5 n (by omega)
  have hne := dec_ne n
  have h1 : 1 ≤ (Lib.decDigits n).length := by
    cases e : Lib.decDigits n with
    | nil => exact absurd e hne
    | cons a l => simp
  unfold rdB
  rw [dec_all n]
  have hz : ¬ ((Lib.decDigits n).head? = some 48 ∧ 1 < (Lib.decDigits n).length) := by
    rintro ⟨a, b⟩
    by_cases h0 : 1 ≤ n
    · exact dec_head n h0 a
    · have : n = 0 := by omega
      subst this
      rw [Lib.decDigits_one (by omega)] at b
      simp at b
  rw [decide_eq_true ⟨h1, hl⟩, decide_eq_false hz]; rfl
/-- What is read is the text of the number. -/
theorem read_dec (k : Nat) : ∀ l : List UInt8, l.length = k + 1 → l.all dgB = true → ¬ (l.head? = some 48 ∧ 1 < l.length) → l = Lib.decDigits (rdG l).toNat := by
  induction k with
  | zero =>
    intro l hl ha _
    match l, hl with
    | [c], _ =>
      have hc : dgB c = true := by simpa using ha
      have hc := of_decide_eq_true hc
      have e : rdG [c] = (c.toNat : Int) - 48 := by show 10 * 0 + ((c.toNat : Int) - 48) = _; omega
      rw [e]
      have e2 : ((c.toNat : Int) - 48).toNat = c.toNat - 48 := by omega
      rw [e2, Lib.decDigits_one (by omega)]
      have e3 : 48 + (c.toNat - 48) = c.toNat := by omega
      rw [e3]; simp
  | succ k ih =>
    intro l hl ha hz
    have hne : l ≠ [] := by intro e; rw [e] at hl; simp at hl
    obtain ⟨l', c, rfl⟩ : ∃ l' c, l = l' ++ [c] := ⟨_, _, (List.dropLast_concat_getLast hne).symm⟩
    have hl' : l'.length = k + 1 := by simpa using hl
    rw [List.all_append] at ha
    simp only [Bool.and_eq_true] at ha
    have hc : dgB c = true := by simpa using ha.2
    have hc := of_decide_eq_true hc
    have hne' : l' ≠ [] := by intro e; rw [e] at hl'; simp at hl'
    have hh : (l' ++ [c]).head? = l'.head? := by
      cases l' with
      | nil => exact absurd rfl hne'
      | cons a r => rfl
    have hz' : l'.head? ≠ some 48 := fun e => hz ⟨by rw [hh]; exact e, by simp; omega⟩
    have h1 := ih l' hl' ha.1 (fun e => hz' e.1)
    have hb := rdG_bd (k + 1) l' hl' ha.1
    rw [rdG_snoc]
    have hpos : 1 ≤ rdG l' := by
      by_cases h0 : rdG l' = 0
      · rw [h0] at h1
        have : Lib.decDigits (0 : Int).toNat = [48] := by rw [Lib.decDigits_one (by decide)]; rfl
        rw [this] at h1
        rw [h1] at hz'
        exact absurd rfl hz'
      · omega
    have e : (10 * rdG l' + ((c.toNat : Int) - 48)).toNat = 10 * (rdG l').toNat + (c.toNat - 48) := by omega
    rw [e, dec_step _ (by omega)]
    have e1 : (10 * (rdG l').toNat + (c.toNat - 48)) / 10 = (rdG l').toNat := by omega
    have e2 : (10 * (rdG l').toNat + (c.toNat - 48)) % 10 = c.toNat - 48 := by omega
    rw [e1, e2, ← h1]
    have e3 : 48 + (c.toNat - 48) = c.toNat := by omega
    rw [e3]; simp
theorem rdB_parts (l : List UInt8) (h : rdB l = true) : 1 ≤ l.length ∧ l.length ≤ 6 ∧ ¬ (l.head? = some 48 ∧ 1 < l.length) ∧ l.all dgB = true := by
  unfold rdB at h
  rw [Bool.and_eq_true, Bool.and_eq_true] at h
  have a := of_decide_eq_true h.1
  refine ⟨a.1, a.2, ?_, h.2.2⟩
  have := h.2.1
  intro hb
  rw [decide_eq_true hb] at this
  cases this
theorem rdB_dec (l : List UInt8) (h : rdB l = true) : l = Lib.decDigits (rdG l).toNat ∧ 0 ≤ rdG l ∧ rdG l ≤ 999999 := by
  obtain ⟨h1, h2, h3, h4⟩ := rdB_parts l h
  have hb := rdG_bd l.length l rfl h4
  have hp : (10 : Int) ^ l.length ≤ 1000000 := by
    match l.length, h2 with
    | 0, _ => decide
    | 1, _ => decide
    | 2, _ => decide
    | 3, _ => decide
    | 4, _ => decide
    | 5, _ => decide
    | 6, _ => decide
  exact ⟨read_dec (l.length - 1) l (by omega) h4 h3, hb.1, by omega⟩
/-- The library parses digits so. -/
theorem parse_digits : ∀ (l : List UInt8) (acc : Nat), l.all dgB = true → l.length ≤ 6 → acc + 1 ≤ 10 ^ (12 - l.length) → Lib.parseUint10 acc l = .ok (l.foldl (fun n c => 10 * n + (c.toNat - 48)) acc) := by
  intro l
  induction l with
  | nil => intro acc _ _ _; rfl
  | cons c r ih =>
    intro acc ha hl hacc
    have hc : dgB c = true ∧ r.all dgB = true := by simpa using ha
    have hc1 := of_decide_eq_true hc.1
    have hr : r.length + 1 ≤ 6 := by simpa using hl
    have hpw : 10 ^ (12 - r.length) = 10 * 10 ^ (12 - (c :: r).length) := by
      rw [List.length_cons, show 12 - r.length = (12 - (r.length + 1)) + 1 by omega, Nat.pow_succ, Nat.mul_comm]
    have hle : 10 ^ (12 - r.length) ≤ 10 ^ 12 := Nat.pow_le_pow_right (by decide) (by omega)
    have e12 : (10 : Nat) ^ 12 = 1000000000000 := by decide
    have hnext : (10 * acc + (c.toNat - 48)) + 1 ≤ 10 ^ (12 - r.length) := by rw [hpw]; omega
    have e : acc * 10 + (c.toNat - 48) = 10 * acc + (c.toNat - 48) := by omega
    rw [Lib.parseUint10, if_pos (by omega), if_neg (by omega), if_neg (by omega), e]
    exact ih _ hc.2 (by omega) hnext
theorem fold_nat : ∀ (l : List UInt8) (acc : Nat), l.all dgB = true → ((l.foldl (fun n c => 10 * n + (c.toNat - 48)) acc : Nat) : Int) = l.foldl (fun n c => 10 * n + ((c.toNat : Int) - 48)) (acc : Int) := by
  intro l
  induction l with
  | nil => intro acc _; rfl
  | cons c r ih =>
    intro acc ha
    have hc : dgB c = true ∧ r.all dgB = true := by simpa using ha
    have hc1 := of_decide_eq_true hc.1
    rw [List.foldl_cons, List.foldl_cons, ih _ hc.2]
    congr 1
    omega
/-- strconv.Atoi at the text of a number. -/
theorem atoi_read (l : List UInt8) (h : rdB l = true) : Lib.atoiAll l = .ok (rdG l) := by
  obtain ⟨h1, h2, h3, h4⟩ := rdB_parts l h
  obtain ⟨_, h5, h6⟩ := rdB_dec l h
  have hp := parse_digits l 0 h4 h2 (by
    have : 10 ^ 1 ≤ 10 ^ (12 - l.length) := Nat.pow_le_pow_right (by decide) (by omega)
    omega)
  have hf := fold_nat l 0 h4
  match l, h1 with
  | c :: r, _ =>
    have hc : dgB c = true := by
      rw [List.all_cons, Bool.and_eq_true] at h4
      exact h4.1
    have hc1 := of_decide_eq_true hc
    have hmag : Lib.parseMag (c :: r) = .ok ((c :: r).foldl (fun n c => 10 * n + (c.toNat - 48)) 0) := by unfold Lib.parseMag; rw [if_neg (by simp)]; exact hp
    have hg : rdG (c :: r) = (((c :: r).foldl (fun n c => 10 * n + (c.toNat - 48)) 0 : Nat) : Int) := hf.symm
    unfold Lib.atoiAll
    have n1 : ¬ (c.toNat = 43 ∨ c.toNat = 45) := by omega
    have n2 : ¬ c.toNat = 45 := by omega
    simp only [if_neg n1, n2]
    rw [hg] at h6 ⊢
    generalize (c :: r).foldl (fun n c => 10 * n + (c.toNat - 48)) 0 = U at *
    have n3 : ¬ c.toNat = 43 := by omega
    simp only [n3, false_or, if_false]
    rw [hmag]
    have h7 : ¬ 9223372036854775808 ≤ U := by omega
    simp [h7]
end Go.Proofs.YtffafiidblamkaaDoor
