/- Relays: the least number of vehicles for a way: plain facts. -/
import Derived.Test.YtmemfaokhlaodaaRelC
import Derived.Test.YtmemfaokhlaodaaCmp
namespace Go.Proofs.Ytmemfaokhlaodaa
open Go.ChangeShapes Go.WideShapes Go.ChangeAt Go.RowKit Go.Joins
set_option maxRecDepth 100000
set_option linter.unusedVariables false
set_option linter.unusedSimpArgs false


/-- Whether n vehicles are enough for the way n / d. -/
def gk (kd n d : Int) (m : Nat) : Bool := amB n d && decide (0 ≤ (reP kd m).1 * d - n * (reP kd m).2)
def lstF (kd n d : Int) : Nat → Nat → Nat
  | 0, _ => 0
  | f + 1, m => if gk kd n d m = true then m else lstF kd n d f (m + 1)
def lsN (kd n d : Int) : Nat := lstF kd n d 20 1
def lsB (kd n d : Int) : Bool := decide (lsN kd n d ≠ 0)
theorem ls_at (kd n d : Int) (k : Nat) (hk : k ≤ 20) (hq : gk kd n d k = true) (h : lstF kd n d (21 - k) k = lsN kd n d) (h1 : 1 ≤ k) : lsN kd n d = k ∧ lsB kd n d = true := by
  have e : 21 - k = (20 - k) + 1 := by omega
  rw [e] at h
  have h2 : lstF kd n d (20 - k + 1) k = k := by show (if gk kd n d k = true then k else _) = k; rw [hq]; simp
  rw [h2] at h
  refine ⟨h.symm, ?_⟩
  simp only [lsB, ← h]
  simp; omega
theorem ls_next (kd n d : Int) (k : Nat) (hk : k ≤ 20) (hq : gk kd n d k = false) (h : lstF kd n d (21 - k) k = lsN kd n d) : lstF kd n d (21 - (k + 1)) (k + 1) = lsN kd n d := by
  have e : 21 - k = (20 - k) + 1 := by omega
  have e2 : 21 - (k + 1) = 20 - k := by omega
  rw [e] at h
  have h2 : lstF kd n d (20 - k + 1) k = lstF kd n d (20 - k) (k + 1) := by show (if gk kd n d k = true then k else lstF kd n d (20 - k) (k + 1)) = _; rw [hq]; simp
  rw [h2] at h
  rw [e2]; exact h
theorem ls_end (kd n d : Int) (h : lstF kd n d (21 - 21) 21 = lsN kd n d) : lsN kd n d = 0 ∧ lsB kd n d = false := by
  have : lsN kd n d = 0 := h.symm
  exact ⟨this, by simp [lsB, this]⟩
theorem ls_none (kd n d : Int) (h : amB n d = false) : lsN kd n d = 0 ∧ lsB kd n d = false := by
  have hq : ∀ m, gk kd n d m = false := by intro m; simp [gk, h]
  have hf : ∀ f m, lstF kd n d f m = 0 := by
    intro f
    induction f with
    | zero => intro m; rfl
    | succ f ih => intro m; show (if gk kd n d m = true then m else lstF kd n d f (m + 1)) = 0; rw [hq m]; simp [ih]
  have : lsN kd n d = 0 := hf 20 1
  exact ⟨this, by simp [lsB, this]⟩
theorem sg_ge (x : Int) : (0 ≤ sgI x) ↔ 0 ≤ x := by unfold sgI; split <;> (try split) <;> omega
/-- What the comparison of the program tells. -/
theorem gk_yes (kd n d : Int) (m : Nat) (h : OkK kd) (h0 : 0 < m) (h1 : m < 21) (hq : gk kd n d m = true) : okk (reP kd m).1 (reP kd m).2 n d = true ∧ 0 ≤ cmI (reP kd m).1 (reP kd m).2 n d := by
  simp only [gk, Bool.and_eq_true, decide_eq_true_eq] at hq
  have ha := re_am kd m h h0 h1
  have ho : okk (reP kd m).1 (reP kd m).2 n d = true := by simp [okk, ha, hq.1]
  exact ⟨ho, by rw [cmI, if_pos ho, sg_ge]; exact hq.2⟩
theorem gk_no (kd n d : Int) (m : Nat) (h : OkK kd) (h0 : 0 < m) (h1 : m < 21) (hq : gk kd n d m = false) : okk (reP kd m).1 (reP kd m).2 n d = false ∨ (okk (reP kd m).1 (reP kd m).2 n d = true ∧ ¬ 0 ≤ cmI (reP kd m).1 (reP kd m).2 n d) := by
  have ha := re_am kd m h h0 h1
  cases hn : amB n d
  · left; simp [okk, hn]
  · right
    have ho : okk (reP kd m).1 (reP kd m).2 n d = true := by simp [okk, ha, hn]
    refine ⟨ho, ?_⟩
    rw [cmI, if_pos ho, sg_ge]
    simp only [gk, hn, Bool.true_and, decide_eq_false_iff_not] at hq
    exact hq
theorem re_i64 (kd : Int) (m : Nat) (h : OkK kd) (h0 : 0 < m) (h1 : m < 21) : (-9223372036854775808 ≤ (reP kd m).1 ∧ (reP kd m).1 ≤ 9223372036854775807) ∧ -9223372036854775808 ≤ (reP kd m).2 ∧ (reP kd m).2 ≤ 9223372036854775807 := by
  have := (amB_iff _ _).1 (re_am kd m h h0 h1); omega
theorem re_in (m : Nat) (h0 : 0 < m) (h1 : m < 21) : inB (m : Int) 1 20 = true := by simp [inB]; omega

end Go.Proofs.Ytmemfaokhlaodaa
