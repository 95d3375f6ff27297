/- The laws' helpers on a list of clues, told of whatever row. -/
import Derived.Test.YtiafmojmanhdoaaOClue
import Derived.Test.YtiafmojmanhdoaaQClue
namespace Go.Proofs.Ytiafmojmanhdoaa
open Go.ChangeShapes Go.WideShapes Go.ChangeAt Go.RowKit Go.Joins
set_option maxRecDepth 100000
set_option linter.unusedVariables false
set_option linter.unusedSimpArgs false

theorem eqr_clues (v1 v2 : Value) (l : List ClueV) (b1 b2 : Nat) (w : World) (hn : l.length ≤ 1048576) (h1 : w.ownsRow b1 27 3 v1 l.length (cellsG fClue l)) (h2 : w.ownsRow b2 27 3 v2 l.length (cellsG fClue l)) :
    Calls Try.prog 61 #[v1, v2] w fun e w' => e = .returned (.bool true) ∧ Below w.heap.size w w' := by
  have h1' := h1
  have h2' := h2
  rcases h1.2 with ⟨rfl, z1⟩ | ⟨g1, c1, cur1, rfl, _⟩ <;> rcases h2.2 with ⟨rfl, z2⟩ | ⟨g2, c2, cur2, rfl, _⟩
  · exact eq_clues_nil _ _ _ _ _
  · rw [z1]; exact eq_clues_nil _ _ _ _ _
  · rw [z2]; exact eq_clues_nil _ _ _ _ _
  · exact eq_clues _ _ _ _ _ _ _ _ hn h1' h2'
theorem mark_clues_same (a : Option Addr) (c : Nat) (s : Int) (w : World) :
    Calls Try.prog 62 #[.slice a 0 c, .int .i64 s] w fun e w' => e = .returned (.int .i64 s) ∧ w = w' := by
  go_enter Try.func62, Try.ntmps62
  go_wp2
  go_loopw [1, 5] (fun m i wr => m = .int .i64 s ∧ i = .int .i64 0 ∧ wr = w) (fun _ _ _ => 0)
  case atStart => exact ⟨rfl, rfl, rfl⟩
  case round =>
    obtain ⟨rfl, rfl, rfl⟩ := hrel
    go_wp2
    go_ret
    exact ⟨rfl, rfl⟩
theorem markr_clues (base n : Nat) (v : Value) (s : Int) (xs : List Value) (w : World) (hn : n ≤ 1048576) (s0 : 0 ≤ s) (s1 : s ≤ 100000000) (hown : w.ownsRow base 27 3 v n xs) :
    Calls Try.prog 62 #[v, .int .i64 s] w fun e w' => e = .returned (.int .i64 (s + 3 * (n : Int))) ∧ w.grownBy w' v.ownBlock ∧
      ∃ ys, w'.ownsRow base 27 3 v n ys ∧ ∀ i : Nat, i < n * 3 → ys[i]? = some (.int .i64 (s + (i : Int))) := by
  have h' := hown
  rcases hown.2 with ⟨rfl, rfl⟩ | ⟨g1, c1, cur1, rfl, _⟩
  · refine (mark_clues_same none 0 s w).mono ?_
    rintro e w' ⟨rfl, rfl⟩
    exact ⟨by simp, ⟨rfl, rfl, rfl, Nat.le_refl _, fun _ _ _ => rfl⟩, xs, h', fun i hi => absurd hi (by omega)⟩
  · exact mark_clues_some _ _ _ _ _ _ _ hn s0 s1 h'
theorem heldr_clues (base n : Nat) (v : Value) (s : Int) (ys : List Value) (w : World) (hn : n ≤ 1048576) (s0 : 0 ≤ s) (s1 : s ≤ 100000000) (hown : w.ownsRow base 27 3 v n ys) (hall : ∀ i : Nat, i < n * 3 → ys[i]? = some (.int .i64 (s + (i : Int)))) :
    Calls Try.prog 70 #[v, .int .i64 s] w fun e w' => e = .returned (.int .i64 (s + 3 * (n : Int))) ∧ Below w.heap.size w w' := by
  have h' := hown
  rcases hown.2 with ⟨rfl, rfl⟩ | ⟨g1, c1, cur1, rfl, _⟩
  · refine (held_clues_nil none 0 s w).mono ?_
    rintro e w' ⟨rfl, hb⟩
    exact ⟨by simp, hb⟩
  · exact held_clues_some _ _ _ _ _ _ _ hn s0 s1 h' hall
end Go.Proofs.Ytiafmojmanhdoaa
