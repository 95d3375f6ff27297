/- The falcon's way; a column's rider: of the program and of the model. -/
import Derived.Test.YtbaaaaceejgofaaCavA
import Derived.Test.YtbaaaaceejgofaaCam5
import Derived.Test.YtbaaaaceejgofaaCavM
import Derived.Test.YtbaaaaceejgofaaRes8
import Derived.Test.YtbaaaaceejgofaaStep
import Derived.Deep.RegionHeld3
import Derived.Deep.DeepCutAuto
import Derived.Deep.RegionWith
namespace Go.Proofs.Ytbaaaaceejgofaa
open Go.ChangeShapes Go.WideShapes Go.ChangeAt Go.RowKit Go.Joins
set_option maxRecDepth 100000
set_option linter.unusedVariables false
set_option linter.unusedSimpArgs false

def fwK (l a b f : Int) : Bool := trP l && trP a && trP b && trP f && decide (a ≤ f ∧ b ≤ f)
theorem fwK_yes {l a b f : Int} (h : fwK l a b f = true) : (1 ≤ l ∧ l ≤ 1000) ∧ (1 ≤ a ∧ a ≤ 1000) ∧ (1 ≤ b ∧ b ≤ 1000) ∧ (1 ≤ f ∧ f ≤ 1000) ∧ a ≤ f ∧ b ≤ f := by
  simp [fwK, trP, inB] at h; omega
theorem whole9 (k : Int) (w : World) :
    Calls Try.prog 19 #[.int .i64 k] w fun e w' => e = .returned (.agg #[.int .i64 k, .int .i64 1]) ∧ Below w.heap.size w w' := by
  go_enter Try.func19, Try.ntmps19
  go_wp2
  exact bodyPost_ret (v := .agg #[.int .i64 k, .int .i64 1]) (by simp [results, Try.results19, go_sem]) rfl ⟨rfl, by (repeat (first | with_reducible exact Below.refl _ _ | with_reducible assumption | with_reducible refine balloc ?_ _ | with_reducible refine bdrew ?_ | with_reducible refine below_drewN ?_ _ | with_reducible refine bset ?_ ?_ _ | with_reducible exact Nat.le_refl _ | with_reducible refine bsize ?_ | (dsimp only; refine Nat.le_trans ?_ (Nat.le_add_right _ _)) | with_reducible refine Nat.le_trans ?_ (Nat.le_add_right _ _) | (with_reducible refine bstep ?_ (by assumption))))⟩
/-- A whole number of times a fraction in lowest terms. -/
theorem low_times (n d k : Int) (h : lowB n d = true) : lowB (lowN n d * k) (lowD n d) = lowB (k * n) d ∧ lowN (lowN n d * k) (lowD n d) = lowN (k * n) d ∧ lowD (lowN n d * k) (lowD n d) = lowD (k * n) d := by
  have e := low_eq n d h
  have hd := ((lowB_iff n d).1 h).2.1
  refine lw_cross _ _ _ _ e.2.1 hd ?_
  have e1 := e.1
  generalize lowN n d = p at *
  generalize lowD n d = q at *
  grind
end Go.Proofs.Ytbaaaaceejgofaa
