/- Plain facts on lowest terms (no program). -/
import Derived.Test.YtbaaaaceejgofaaCamM
import Derived.Test.YtbaaaaceejgofaaOps
namespace Go.Proofs.Ytbaaaaceejgofaa
open Go.RowKit
set_option linter.unusedVariables false
set_option linter.unusedSimpArgs false

theorem nolow8 (k : Bool) (n d : Int) (h : k = false) : twoN k n d = 0 ∧ twoD k n d = 0 ∧ twoB k n d = false := by subst h; exact two_no n d
theorem low_0 (n : Int) : lowB n 0 = false ∧ lowN n 0 = 0 ∧ lowD n 0 = 0 := by
  have h : lowB n 0 = false := by simp [lowB]
  exact ⟨h, lowN_no _ _ h, lowD_no _ _ h⟩
/-- What lowest terms are. -/
theorem low_eq (n d : Int) (h : lowB n d = true) : lowN n d * d = n * lowD n d ∧ 1 ≤ lowD n d ∧ lowD n d ≤ 1000000000 ∧ 0 ≤ lowN n d ∧ lowN n d ≤ 1000000000 := by
  have hi := (lowB_iff n d).1 h
  have e1 : lowN n d = rdN n d := by unfold lowN rdN; rw [if_pos h]
  have e2 : lowD n d = rdD n d := by unfold lowD rdD; rw [if_pos h]
  have hr := rd_is n d hi.2.1
  have ha := am_of _ _ (amB_low n d h)
  refine ⟨by rw [e1, e2]; exact rd_eq n d hi.2.1, ha.c, ha.d, ha.a, ha.b⟩
/-- Small numbers have lowest terms. -/
theorem low_small (n d : Int) (h0 : 0 ≤ n) (h1 : n ≤ 1000000000) (h2 : 1 ≤ d) (h3 : d ≤ 1000000000) : lowB n d = true := by
  rw [lowB_iff]
  exact ⟨h0, h2, Int.le_trans (Int.ediv_le_self _ h0) h1, Int.le_trans (Int.ediv_le_self _ (by omega)) h3⟩
/-- A fraction in lowest terms is no greater than the one that it comes of. -/
theorem low_le (n d : Int) (h : lowB n d = true) : lowN n d ≤ n ∧ lowD n d ≤ d := by
  have hi := (lowB_iff n d).1 h
  unfold lowN lowD
  rw [if_pos h, if_pos h]
  exact ⟨Int.ediv_le_self _ hi.1, Int.ediv_le_self _ (by omega)⟩
theorem low_one (n : Int) (h0 : 0 ≤ n) (h1 : n ≤ 1000000000) : lowB n 1 = true ∧ lowN n 1 = n ∧ lowD n 1 = 1 := by
  refine low_am n 1 ?_
  rw [amB_iff]; refine ⟨h0, h1, by omega, by omega, ?_⟩
  unfold gi; rw [Int.gcd_one_right]; rfl
end Go.Proofs.Ytbaaaaceejgofaa
