/- The model's decimal text of a number: the library's digits. -/
import Derived.Test.YtffafiidblamkaaDoorIsAm
import Derived.Laws.IdiomStrings
import Derived.Lib.ItoaNum
import Derived.Deep.RegionHeld3
import Derived.Deep.DeepCutAuto
import Derived.IntWalk
namespace Go.Proofs.YtffafiidblamkaaDoor
open Go.RowKit
set_option linter.unusedVariables false
set_option linter.unusedSimpArgs false

/-- A slice of one byte, turned into a text. -/
theorem one_byte (c : UInt8) (g : Nat) (w : World) (hc : w.cell? ⟨g, 0, none⟩ = some (.int .u8 (c.toNat : Int))) :
    Sem.run Tryd.prog (convert 65 9 (.slice (some ⟨g, 0, none⟩) 1 1)) w = .ok (.string ⟨[c].toArray⟩) w := by
  refine run_convert_bytes_back (P := Tryd.prog) w 65 9 5 ⟨g, 0, none⟩ 1 [c] Tryd.underlying65 Tryd.underlying5 Tryd.underlying9 ?_
  intro j hj
  have hj0 : j = 0 := by simp at hj; omega
  subst hj0
  exact hc
/-- The byte of a digit. -/
theorem digit_is (d : Nat) (h : d < 10) : ∃ c : UInt8, UInt8.ofNat (48 + d) = c ∧ (c.toNat : Int) = 48 + (d : Int) :=
  ⟨_, rfl, by rw [UInt8.toNat_ofNat']; omega⟩

set_option maxHeartbeats 800000 in
theorem num_small (d : Nat) (h : d < 10) (w : World) :
    Calls Tryd.prog 32 #[.int .i64 (d : Int)] w fun e w' => e = .returned (.string ⟨(Lib.decDigits d).toArray⟩) ∧ Below w.heap.size w w' := by
  rw [Lib.decDigits_one h]
  obtain ⟨c, hc, hcn⟩ := digit_is d h
  rw [hc]
  clear hc
  have hnew : ∀ w : World, Sem.run Tryd.prog (convert 65 9 (.slice (some ⟨w.heap.size, 0, none⟩) 1 1)) (w.alloc (.cells #[.int .u8 (48 + (d : Int))] 5)) = .ok (.string ⟨[c].toArray⟩) (w.alloc (.cells #[.int .u8 (48 + (d : Int))] 5)) :=
    fun w => one_byte c _ _ (by rw [hcn]; simp [go_sem])
  clear hcn
  go_enter Tryd.func32, Tryd.ntmps32
  go_wp2
  go_ret
  refine ⟨rfl, ?_⟩
  (repeat (first | with_reducible exact Below.refl _ _ | with_reducible assumption | with_reducible refine balloc ?_ _ | with_reducible refine bdrew ?_ | with_reducible refine below_drewN ?_ _ | with_reducible refine bset ?_ ?_ _ | with_reducible exact Nat.le_refl _ | with_reducible refine bsize ?_ | (dsimp only; refine Nat.le_trans ?_ (Nat.le_add_right _ _)) | with_reducible refine Nat.le_trans ?_ (Nat.le_add_right _ _) | (with_reducible refine bstep ?_ (by assumption))))

end Go.Proofs.YtffafiidblamkaaDoor
