/- The laws' helpers on an answer that is a list of stas: two without elements are equal; one is written, and read again. -/
import Derived.Test.YtoienhjbhpdehaaStaT
import Derived.Deep.RegionHeld3
namespace Go.Proofs.Ytoienhjbhpdehaa
open Go.ChangeShapes Go.WideShapes Go.ChangeAt Go.RowKit Go.Joins
set_option maxRecDepth 100000
set_option linter.unusedVariables false
set_option linter.unusedSimpArgs false

theorem eq_stas_nil (a b : Option Addr) (c c' : Nat) (w : World) :
    Calls Try.prog 8 #[.slice a 0 c, .slice b 0 c'] w fun e w' => e = .returned (.bool true) ∧ Below w.heap.size w w' := by
  go_enter Try.func8, Try.ntmps8
  go_wp2
  go_loopw [5] (fun i wr => i = .int .i64 0 ∧ wr = w) (fun _ _ => 0)
  case atStart => exact ⟨rfl, rfl⟩
  case round =>
    obtain ⟨rfl, rfl⟩ := hrel
    go_wp2
    go_ret
    refine ⟨rfl, ?_⟩
    (repeat (first | with_reducible exact Below.refl _ _ | with_reducible assumption | with_reducible refine balloc ?_ _ | with_reducible refine bdrew ?_ | with_reducible refine below_drewN ?_ _ | with_reducible refine bset ?_ ?_ _ | with_reducible exact Nat.le_refl _ | with_reducible refine bsize ?_ | (dsimp only; refine Nat.le_trans ?_ (Nat.le_add_right _ _)) | with_reducible refine Nat.le_trans ?_ (Nat.le_add_right _ _) | (with_reducible refine bstep ?_ (by assumption))))
end Go.Proofs.Ytoienhjbhpdehaa
