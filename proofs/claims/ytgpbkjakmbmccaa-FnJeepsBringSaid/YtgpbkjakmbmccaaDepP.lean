/- The depots of so many tanks: plain facts. -/
import Derived.Test.YtgpbkjakmbmccaaJeep
import Derived.Test.YtgpbkjakmbmccaaDepotT
import Derived.Test.YtgpbkjakmbmccaaTripsC
import Derived.Test.YtgpbkjakmbmccaaApp
namespace Go.Proofs.Ytgpbkjakmbmccaa
open Go.ChangeShapes Go.WideShapes Go.ChangeAt Go.RowKit Go.Joins
set_option maxRecDepth 100000
set_option linter.unusedVariables false
set_option linter.unusedSimpArgs false

/-- Where the m-th depot is, with t tanks; its fuel, k parts behind it; the first i depots. -/
def atP (j : Int) (t m : Nat) : Int × Int := (oN (sumL (pL j t m) 0 1), oD (sumL (pL j t m) 0 1))
def fuP (j : Int) (k : Nat) : Int × Int := if j = 1 then ((k : Int), 1) else ((k : Int) * k, (k : Int) + 1)
def dpP (j : Int) (t i : Nat) : List DepotV := (List.range i).map fun (m : Nat) => ⟨(atP j t (m + 1)).1, (atP j t (m + 1)).2, (fuP j (t - 1 - m)).1, (fuP j (t - 1 - m)).2⟩
theorem dpP_len (j : Int) (t i : Nat) : (dpP j t i).length = i := by simp [dpP]
theorem dpP_succ (j : Int) (t i : Nat) : dpP j t (i + 1) = dpP j t i ++ [⟨(atP j t (i + 1)).1, (atP j t (i + 1)).2, (fuP j (t - 1 - i)).1, (fuP j (t - 1 - i)).2⟩] := by simp [dpP, List.range_succ]
def dpL (j t : Int) : List DepotV := if tkOk t = true then dpP j t.toNat (t.toNat - 1) else []
theorem depots_len (j t : Int) : (dpL j t).length ≤ 1000 := by
  unfold dpL; split
  · rename_i h; unfold tkOk inB at h; rw [dpP_len]; simp at h; omega
  · simp
theorem depotsOut_len (t : Int) : (dpL 1 t).length ≤ 1000 := depots_len 1 t
theorem depotsBack_len (t : Int) : (dpL 2 t).length ≤ 1000 := depots_len 2 t
def atOk (j : Int) (t m : Nat) : Bool :=
  amB (atP j t m).1 (atP j t m).2 && amB 1 (drv j (t - 1 - m)) && lowB ((atP j t m).1 * drv j (t - 1 - m) + 1 * (atP j t m).2) ((atP j t m).2 * drv j (t - 1 - m)) &&
  lowN ((atP j t m).1 * drv j (t - 1 - m) + 1 * (atP j t m).2) ((atP j t m).2 * drv j (t - 1 - m)) == (atP j t (m + 1)).1 &&
  lowD ((atP j t m).1 * drv j (t - 1 - m) + 1 * (atP j t m).2) ((atP j t m).2 * drv j (t - 1 - m)) == (atP j t (m + 1)).2
theorem at_all1 : ∀ t, t < 11 → ∀ m, m < t → atOk 1 t m = true := by decide +kernel
theorem at_all2 : ∀ t, t < 11 → ∀ m, m < t → atOk 2 t m = true := by decide +kernel
structure AtSt (j : Int) (t m : Nat) : Prop where
  a : amB (atP j t m).1 (atP j t m).2 = true
  u : amB 1 (drv j (t - 1 - m)) = true
  b : lowB ((atP j t m).1 * drv j (t - 1 - m) + 1 * (atP j t m).2) ((atP j t m).2 * drv j (t - 1 - m)) = true
  n : lowN ((atP j t m).1 * drv j (t - 1 - m) + 1 * (atP j t m).2) ((atP j t m).2 * drv j (t - 1 - m)) = (atP j t (m + 1)).1
  d : lowD ((atP j t m).1 * drv j (t - 1 - m) + 1 * (atP j t m).2) ((atP j t m).2 * drv j (t - 1 - m)) = (atP j t (m + 1)).2
theorem at_step (j : Int) (t m : Nat) (h : OkJ j) (ht : t < 11) (hm : m < t) : AtSt j t m := by
  have hs : atOk j t m = true := by
    rcases h with rfl | rfl
    · exact at_all1 t ht m hm
    · exact at_all2 t ht m hm
  simp only [atOk, Bool.and_eq_true, beq_iff_eq] at hs
  exact ⟨hs.1.1.1.1, hs.1.1.1.2, hs.1.1.2, hs.1.2, hs.2⟩
theorem at_zero (j : Int) (t : Nat) : atP j t 0 = (0, 1) := by simp [atP, pL, sumL, oN, oD]

theorem infoDep : (Try.prog.info? 41).map (fun i => (i.zero, i.size, i.bytes)) = some (some (.agg #[.int .i64 0, .int .i64 0, .int .i64 0, .int .i64 0]), 4, 32) := by kernel_rfl
end Go.Proofs.Ytgpbkjakmbmccaa
