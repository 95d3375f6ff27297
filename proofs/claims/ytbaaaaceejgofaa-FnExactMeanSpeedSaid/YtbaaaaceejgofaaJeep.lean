/- Contracts of journey.drives, journey.parts, SumAmounts over a row, journey.reach, of the program. -/
import Derived.Test.YtbaaaaceejgofaaAddUp
import Derived.Test.YtbaaaaceejgofaaFar
namespace Go.Proofs.Ytbaaaaceejgofaa
open Go.RowKit
set_option maxRecDepth 100000
set_option linter.unusedVariables false
set_option linter.unusedSimpArgs false

/-- The first i parts of the way with t tanks, nearest to the start first. -/
def pL (j : Int) (t i : Nat) : List (Int × Int) := (List.range i).map fun (m : Nat) => ((1 : Int), drv j (t - 1 - m))
theorem pL_len (j : Int) (t i : Nat) : (pL j t i).length = i := by simp [pL]
theorem pL_succ (j : Int) (t i : Nat) : pL j t (i + 1) = pL j t i ++ [(1, drv j (t - 1 - i))] := by simp [pL, List.range_succ]
theorem pL_sum1 : ∀ t, t < 12 → sumL (pL 1 t t) 0 1 = some (rP 1 t) := by decide +kernel
theorem pL_sum2 : ∀ t, t < 12 → sumL (pL 2 t t) 0 1 = some (rP 2 t) := by decide +kernel
theorem pL_sum (j : Int) (t : Nat) (h : OkJ j) (ht : t < 12) : sumL (pL j t t) 0 1 = some (rP j t) := by
  rcases h with rfl | rfl
  · exact pL_sum1 t ht
  · exact pL_sum2 t ht
theorem pL_bd (j : Int) (t i : Nat) (h : OkJ j) (ht : t < 12) : ∀ p ∈ pL j t i, ∀ y ∈ fAmt p, -9223372036854775808 ≤ y ∧ y ≤ 9223372036854775807 := by
  intro p hp y hy
  simp only [pL, List.mem_map, List.mem_range] at hp
  obtain ⟨m, hm, rfl⟩ := hp
  have := drv_bd j (t - 1 - m) h (by omega)
  simp [fAmt] at hy
  omega

/-- SumAmounts at whatever slice of at most 50. -/
theorem sum_row (v : Value) (l : List (Int × Int)) (w : World) (h : RowG 2 fAmt w v l) (h50 : l.length ≤ 50) :
    Calls Try.prog 24 #[v] w fun e w' => e = .returned (.tuple #[.agg #[.int .i64 (oN (sumL l 0 1)), .int .i64 (oD (sumL l 0 1))], .bool (oB (sumL l 0 1))]) ∧ Below w.heap.size w w' := by
  have hcon := fun (W : World) (h : RowG 2 fAmt W v l) => addUp_row v l W h
  have hsh : ∃ a cap, v = .slice a l.length cap := by
    rcases h with ⟨rfl, rfl⟩ | ⟨a, cap, rfl, _⟩
    · exact ⟨none, 0, rfl⟩
    · exact ⟨_, _, rfl⟩
  obtain ⟨a, cap, rfl⟩ := hsh
  have HC := Lib.hid hcon
  have HR := Lib.hid h
  clear hcon h
  go_enter Try.func24, Try.ntmps24
  go_wp2_with fail
  refine (HC.out _ ?_).mono ?_
  · rcases HR.out with ⟨h1, h2⟩ | ⟨a', cap', h1, h2⟩
    · exact Or.inl ⟨h1, h2⟩
    · exact Or.inr ⟨a', cap', h1, liesG_below h2 (by (repeat (first | with_reducible exact Below.refl _ _ | with_reducible assumption | with_reducible refine balloc ?_ _ | with_reducible refine bdrew ?_ | with_reducible refine below_drewN ?_ _ | with_reducible refine bset ?_ ?_ _ | with_reducible exact Nat.le_refl _ | with_reducible refine bsize ?_ | (dsimp only; refine Nat.le_trans ?_ (Nat.le_add_right _ _)) | with_reducible refine Nat.le_trans ?_ (Nat.le_add_right _ _) | (with_reducible refine bstep ?_ (by assumption)))))⟩
  rintro e w3 ⟨rfl, hb3⟩
  obtain ⟨kc3, kf3, kz3, ky3, kx3, kv3, ku3⟩ := bcell hb3
  go_wp2
  refine bodyPost_ret (v := .tuple #[.agg #[.int .i64 (oN (sumL l 0 1)), .int .i64 (oD (sumL l 0 1))], .bool (oB (sumL l 0 1))]) (by simp only [results, Try.results24]; go_simp) rfl ⟨rfl, ?_⟩
  (repeat (first | with_reducible exact Below.refl _ _ | with_reducible assumption | with_reducible refine balloc ?_ _ | with_reducible refine bdrew ?_ | with_reducible refine below_drewN ?_ _ | with_reducible refine bset ?_ ?_ _ | with_reducible exact Nat.le_refl _ | with_reducible refine bsize ?_ | (dsimp only; refine Nat.le_trans ?_ (Nat.le_add_right _ _)) | with_reducible refine Nat.le_trans ?_ (Nat.le_add_right _ _) | (with_reducible refine bstep ?_ (by assumption))))

end Go.Proofs.Ytbaaaaceejgofaa
