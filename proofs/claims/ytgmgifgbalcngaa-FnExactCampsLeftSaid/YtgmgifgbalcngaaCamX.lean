/- Camels: StopsOf on both sides. -/
import Derived.Test.YtgmgifgbalcngaaCamK
import Derived.Test.YtgmgifgbalcngaaAddUp
import Derived.Test.YtgmgifgbalcngaaAns
import Derived.Test.YtgmgifgbalcngaaCamT
namespace Go.Proofs.Ytgmgifgbalcngaa
open Go.ChangeShapes Go.WideShapes Go.ChangeAt Go.RowKit Go.Joins
set_option maxRecDepth 100000
set_option linter.unusedVariables false
set_option linter.unusedSimpArgs false

/-- The first i of the places where the rate changes. -/
def soP (L E d n : Int) (t i : Nat) : List (Int × Int) := (List.range i).map fun (m : Nat) => (paX L E d n t (m + 1), paY L E d n t (m + 1))
theorem soP_len (L E d n : Int) (t i : Nat) : (soP L E d n t i).length = i := by simp [soP]
theorem soP_succ (L E d n : Int) (t i : Nat) : soP L E d n t (i + 1) = soP L E d n t i ++ [(paX L E d n t (i + 1), paY L E d n t (i + 1))] := by simp [soP, List.range_succ]
def soL (L E n d : Int) : List (Int × Int) := if askB L E n d = true then soP L E d n (trp (L * d) n) (trp (L * d) n - 1) else []
theorem so_len (L E n d : Int) : (soL L E n d).length ≤ 1000 := by
  unfold soL; split
  · rw [soP_len]; have := trp_bd (L * d) n; omega
  · simp
theorem so_low {L E d n : Int} {t : Nat} (H : CamIn L E d n t) (i : Nat) (hi : i ≤ t) : lowB (paX L E d n t i) (paY L E d n t i) = true ∧ lowN (paX L E d n t i) (paY L E d n t i) = paX L E d n t i ∧ lowD (paX L E d n t i) (paY L E d n t i) = paY L E d n t i := by
  have hb := pa_bd H i hi
  have hdE := H.dE
  refine low_am _ _ ((amB_iff _ _).2 ⟨hb.1, by omega, hb.2.2.1, by omega, ?_⟩)
  exact low_coprime (paA L d n t i) (3465 * (d * E)) (by omega)
theorem gi_one (k : Int) : gi k 1 = 1 := by unfold gi; simp
/-- What the program asks of WayWith for the i-th place. -/
theorem so_way {L E d n : Int} {t : Nat} (H : CamIn L E d n t) (ht : trp (L * d) n = t) (ha : askB L E n d = true) (i k : Nat) (hi : k + i = t) (h1 : 1 ≤ i) (hk : 1 ≤ k) :
    twoN (wayWithK L E n d (k * L) 1) (wayWithX L E n d (k * L) 1) (wayWithM L E n d (k * L) 1) = paX L E d n t i ∧ twoD (wayWithK L E n d (k * L) 1) (wayWithX L E n d (k * L) 1) (wayWithM L E n d (k * L) 1) = paY L E d n t i := by
  obtain ⟨l1, l2⟩ := H.ld
  have hdE := H.dE
  have tb := H.ht.b
  have hkL := mul_le2 (k : Int) L 6 12 (by omega) (by omega) (by have := H.L1; omega) H.L2
  have hK : wayWithK L E n d (k * L) 1 = true := by
    have e1 : d * ((k : Int) * L) = k * (L * d) := by ac_rfl
    have e2 : L * (d * 1) = L * d := by rw [Int.mul_one]
    have e3 : (k : Int) * (L * d) ≤ 6 * (L * d) := Int.mul_le_mul_of_nonneg_right (by omega) (by omega)
    unfold wayWithK plB
    rw [ha, (amB_iff _ _).2 ⟨hkL.1, by omega, by omega, by omega, gi_one _⟩, e1, e2, decide_eq_true e3]
    simp
  rw [hK, (two_yes _ _).1, (two_yes _ _).2.1]
  have eX : wayWithX L E n d (k * L) 1 = paA L d n t i := by
    unfold wayWithX paA paU
    have e1 : d * ((k : Int) * L) = k * (L * d) := by ac_rfl
    have e2 : (t : Int) - i = k := by omega
    rw [if_neg (by omega), e1, e2, Int.mul_one, Int.one_mul]
  have eM : wayWithM L E n d (k * L) 1 = 3465 * (d * E) := by unfold wayWithM; rw [Int.mul_one]; ac_rfl
  rw [eX, eM]
  have hs := so_low H i (by omega)
  have hr := rd_is (paA L d n t i) (3465 * (d * E)) (by omega)
  have hb := pa_bd H i (by omega)
  have hl := lw_scale (gi (paA L d n t i) (3465 * (d * E))) (paX L E d n t i) (paY L E d n t i) (by have := hr.g1; omega) hb.2.2.1
  have f1 : gi (paA L d n t i) (3465 * (d * E)) * paX L E d n t i = paA L d n t i := hr.n1.symm
  have f2 : gi (paA L d n t i) (3465 * (d * E)) * paY L E d n t i = 3465 * (d * E) := hr.d1.symm
  rw [f1, f2] at hl
  exact ⟨hl.2.1.trans hs.2.1, hl.2.2.trans hs.2.2⟩
end Go.Proofs.Ytgmgifgbalcngaa
