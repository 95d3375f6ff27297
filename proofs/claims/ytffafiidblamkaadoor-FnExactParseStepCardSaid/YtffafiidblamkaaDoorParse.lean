/- Texts of amounts, read and written: plain facts. -/
import Derived.Test.YtffafiidblamkaaDoorDec
import Derived.Test.YtffafiidblamkaaDoorSplit
namespace Go.Proofs.YtffafiidblamkaaDoor
set_option maxRecDepth 100000
set_option linter.unusedVariables false
set_option linter.unusedSimpArgs false

theorem spA_no (b : UInt8) : ∀ (l cur : List UInt8), b ∉ l → spA b cur l = [cur ++ l] := by
  intro l
  induction l with
  | nil => intro cur _; simp [spA]
  | cons c l ih =>
    intro cur h
    have hc : ¬ c = b := fun e => h (by rw [e]; exact List.mem_cons_self)
    rw [spA, if_neg hc, ih _ (fun hm => h (List.mem_cons_of_mem _ hm))]
    simp
theorem spA_yes (b : UInt8) (r : List UInt8) : ∀ (l cur : List UInt8), b ∉ l → spA b cur (l ++ b :: r) = (cur ++ l) :: spl b r := by
  intro l
  induction l with
  | nil => intro cur _; simp [spA, spl]
  | cons c l ih =>
    intro cur h
    have hc : ¬ c = b := fun e => h (by rw [e]; exact List.mem_cons_self)
    rw [List.cons_append, spA, if_neg hc, ih _ (fun hm => h (List.mem_cons_of_mem _ hm))]
    simp
theorem spl_no (b : UInt8) (l : List UInt8) (h : b ∉ l) : spl b l = [l] := by unfold spl; rw [spA_no b l [] h]; rfl
theorem spl_yes (b : UInt8) (l r : List UInt8) (h : b ∉ l) : spl b (l ++ b :: r) = l :: spl b r := by
  unfold spl; rw [spA_yes b r l [] h]; rfl
/-- A text has the byte, or not. -/
theorem part_at (b : UInt8) : ∀ l : List UInt8, b ∉ l ∨ ∃ a r, l = a ++ b :: r ∧ b ∉ a := by
  intro l
  induction l with
  | nil => exact Or.inl (by simp)
  | cons c l ih =>
    by_cases hc : c = b
    · exact Or.inr ⟨[], l, by rw [hc]; rfl, by simp⟩
    · rcases ih with h | ⟨a, r, rfl, ha⟩
      · exact Or.inl (fun hm => by rcases List.mem_cons.1 hm with e | e; exact hc e.symm; exact h e)
      · exact Or.inr ⟨c :: a, r, rfl, fun hm => by rcases List.mem_cons.1 hm with e | e; exact hc e.symm; exact ha e⟩
theorem spl_ne (b : UInt8) (l : List UInt8) : spl b l ≠ [] := by
  rcases part_at b l with h | ⟨a, r, rfl, ha⟩
  · rw [spl_no b l h]; simp
  · rw [spl_yes b a r ha]; simp
theorem dec_no (b : UInt8) (h : dgB b = false) (k : Nat) : b ∉ Lib.decDigits k := fun hm => by
  have := (List.all_eq_true.1 (dec_all k)) b hm
  rw [h] at this
  cases this
theorem plus_no (k : Nat) : (43 : UInt8) ∉ Lib.decDigits k := dec_no 43 (by decide) k
theorem slash_no (k : Nat) : (47 : UInt8) ∉ Lib.decDigits k := dec_no 47 (by decide) k
/-- The text of an amount as a list of bytes. -/
def txL (n d : Int) : List UInt8 := if 0 < n % d then Lib.decDigits (n / d).toNat ++ 43 :: (Lib.decDigits (n % d).toNat ++ 47 :: Lib.decDigits d.toNat) else Lib.decDigits (n / d).toNat
theorem txS_is (n d : Int) : txS n d = ⟨(txL n d).toArray⟩ := by
  unfold txS txL decS
  split
  · have e1 : ({ data := #[43] } : ByteArray) = ⟨([43] : List UInt8).toArray⟩ := rfl
    have e2 : ({ data := #[47] } : ByteArray) = ⟨([47] : List UInt8).toArray⟩ := rfl
    rw [e1, e2, str_app, str_app, str_app, str_app]
    simp
  · rfl
/-- What the model reads. -/
def apV (l : List UInt8) : Option (Int × Int) :=
  if 20 < l.length then none else
  match spl 43 l with
  | [a] => if rdB a = true then some (rdG a, 1) else none
  | [a, c] => if rdB a = true then
      (match spl 47 c with
      | [x, y] => if rdB x = true ∧ rdB y = true ∧ 1 ≤ rdG x ∧ rdG x < rdG y ∧ gi (rdG x) (rdG y) = 1 ∧ rdG a * rdG y + rdG x ≤ 1000000000 then some (rdG a * rdG y + rdG x, rdG y) else none
      | _ => none) else none
  | _ => none
theorem shB_parts (n d : Int) (h : shB n d = true) : amB n d = true ∧ n / d ≤ 999999 ∧ d ≤ 999999 := by
  unfold shB at h
  rw [Bool.and_eq_true] at h
  exact ⟨h.1, of_decide_eq_true h.2⟩
theorem txL_len (n d : Int) (h : shB n d = true) : (txL n d).length ≤ 20 := by
  obtain ⟨ha, h1, h2⟩ := shB_parts n d h
  obtain ⟨n0, n1, d0, d1⟩ := am_of n d ha
  have hr := Int.emod_lt_of_pos n (show 0 < d by omega)
  have a := dec_len 5 (n / d).toNat (by omega)
  have b := dec_len 5 (n % d).toNat (by omega)
  have c := dec_len 5 d.toNat (by omega)
  unfold txL
  split
  · simp; omega
  · omega
theorem gi_mod (n d : Int) (hn : 0 ≤ n) (hd : 0 ≤ d) : gi (n % d) d = gi n d := by
  obtain ⟨a, rfl⟩ := Int.eq_ofNat_of_zero_le hn
  obtain ⟨b, rfl⟩ := Int.eq_ofNat_of_zero_le hd
  have e : ((a : Int) % (b : Int)) = ((a % b : Nat) : Int) := by omega
  unfold gi
  rw [e]
  show ((Nat.gcd (a % b) b : Nat) : Int) = ((Nat.gcd a b : Nat) : Int)
  rw [← Nat.gcd_rec, Nat.gcd_comm]
theorem ap_text (n d : Int) (h : shB n d = true) : apV (txL n d) = some (n, d) := by
  have hlen := txL_len n d h
  obtain ⟨ha, h1, h2⟩ := shB_parts n d h
  obtain ⟨n0, n1, d0, d1⟩ := am_of n d ha
  have hg : gi n d = 1 := ((amB_iff n d).1 ha).2.2.2.2
  have hq0 := Int.ediv_nonneg n0 (show 0 ≤ d by omega)
  have hr0 := Int.emod_nonneg n (show d ≠ 0 by omega)
  have hr1 := Int.emod_lt_of_pos n (show 0 < d by omega)
  have hdm := Int.mul_ediv_add_emod n d
  unfold apV
  rw [if_neg (by omega)]
  unfold txL
  have v1 : rdG (Lib.decDigits (n / d).toNat) = n / d := by rw [dec_val]; omega
  have v2 : rdG (Lib.decDigits (n % d).toNat) = n % d := by rw [dec_val]; omega
  have v3 : rdG (Lib.decDigits d.toNat) = d := by rw [dec_val]; omega
  have w1 := dec_read (n / d).toNat (by omega)
  have w2 := dec_read (n % d).toNat (by omega)
  have w3 := dec_read d.toNat (by omega)
  by_cases hr : 0 < n % d
  · rw [if_pos hr, spl_yes 43 _ _ (plus_no _), spl_no 43 _ (by
      intro hm
      rcases List.mem_append.1 hm with e | e
      · exact plus_no _ e
      · rcases List.mem_cons.1 e with e | e
        · exact absurd e (by decide)
        · exact plus_no _ e)]
    simp only [w1, if_true]
    rw [spl_yes 47 _ _ (slash_no _), spl_no 47 _ (slash_no _)]
    simp only []
    rw [if_pos ⟨w2, w3, by rw [v2]; omega, by rw [v2, v3]; omega, by rw [v2, v3, gi_mod n d n0 (by omega)]; exact hg, by rw [v1, v2, v3, Int.mul_comm]; omega⟩]
    rw [v1, v2, v3, Int.mul_comm, hdm]
  · have hz : n % d = 0 := by omega
    have hd1 : d = 1 := by
      have := gi_mod n d n0 (by omega)
      rw [hz, hg] at this
      unfold gi at this
      rw [Int.gcd_zero_left] at this
      omega
    rw [if_neg hr, spl_no 43 _ (plus_no _)]
    simp only [w1, if_true]
    rw [v1]
    subst hd1
    simp
theorem ap_sound (l : List UInt8) (n d : Int) (h : apV l = some (n, d)) : shB n d = true ∧ txL n d = l := by
  unfold apV at h
  split at h
  · cases h
  rcases part_at 43 l with hno | ⟨a, r, rfl, ha⟩
  · rw [spl_no 43 l hno] at h
    simp only [] at h
    split at h
    · next hb =>
      injection h with h
      injection h with e1 e2
      subst e1 e2
      obtain ⟨b1, b2, b3⟩ := rdB_dec l hb
      have hm : rdG l % 1 = 0 := by omega
      have hd : rdG l / 1 = rdG l := by omega
      refine ⟨?_, ?_⟩
      · unfold shB
        have : amB (rdG l) 1 = true := by
          rw [amB_iff]; refine ⟨b2, by omega, by omega, by omega, ?_⟩
          unfold gi; rw [Int.gcd_one_right]; rfl
        rw [this, hd, decide_eq_true ⟨b3, by omega⟩]; rfl
      · unfold txL
        rw [if_neg (by omega), hd]
        exact b1.symm
    · cases h
  · rw [spl_yes 43 a r ha] at h
    rcases part_at 43 r with hno | ⟨a2, r2, rfl, ha2⟩
    · rw [spl_no 43 r hno] at h
      simp only [] at h
      split at h
      · next hb =>
        rcases part_at 47 r with hno2 | ⟨x, y, rfl, hx⟩
        · rw [spl_no 47 r hno2] at h
          cases h
        · rw [spl_yes 47 x y hx] at h
          rcases part_at 47 y with hno3 | ⟨a3, r3, rfl, ha3⟩
          · rw [spl_no 47 y hno3] at h
            simp only [] at h
            split at h
            · next hc =>
              obtain ⟨c1, c2, c3, c4, c5, c6⟩ := hc
              injection h with h
              injection h with e1 e2
              obtain ⟨a1, a2, a3⟩ := rdB_dec a hb
              obtain ⟨x1, x2, x3⟩ := rdB_dec x c1
              obtain ⟨y1, y2, y3⟩ := rdB_dec y c2
              have hmod : n % d = rdG x := by
                rw [← e1, ← e2, Int.mul_comm, Int.mul_add_emod_self_left, Int.emod_eq_of_lt x2 c4]
              have hdiv : n / d = rdG a := by
                rw [← e1, ← e2, Int.mul_comm, Int.mul_add_ediv_left _ _ (by omega), Int.ediv_eq_zero_of_lt x2 c4]; omega
              have n0 : 0 ≤ n := by rw [← e1]; have := Int.mul_nonneg a2 y2; omega
              have hg : gi n d = 1 := by rw [← gi_mod n d n0 (by omega), hmod, ← e2]; exact c5
              refine ⟨?_, ?_⟩
              · unfold shB
                have : amB n d = true := by
                  rw [amB_iff]; exact ⟨n0, by omega, by omega, by omega, hg⟩
                rw [this, hdiv, decide_eq_true ⟨a3, by omega⟩]; rfl
              · unfold txL
                rw [if_pos (by omega), hdiv, hmod, ← e2, ← a1, ← x1, ← y1]
            · cases h
          · rw [spl_yes 47 a3 r3 ha3] at h
            cases hs : spl 47 r3 with
            | nil => exact absurd hs (spl_ne 47 r3)
            | cons u v => rw [hs] at h; cases h
      · cases h
    · rw [spl_yes 43 a2 r2 ha2] at h
      cases hs : spl 43 r2 with
      | nil => exact absurd hs (spl_ne 43 r2)
      | cons u v => rw [hs] at h; cases h
end Go.Proofs.YtffafiidblamkaaDoor
