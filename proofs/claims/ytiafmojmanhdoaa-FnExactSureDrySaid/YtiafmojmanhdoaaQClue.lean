/- The laws' helper that compares two lists of clues. -/
import Derived.Test.YtiafmojmanhdoaaLClue
namespace Go.Proofs.Ytiafmojmanhdoaa
open Go.ChangeShapes Go.WideShapes Go.ChangeAt Go.RowKit Go.Joins
set_option maxRecDepth 100000
set_option linter.unusedVariables false
set_option linter.unusedSimpArgs false

set_option maxHeartbeats 3200000 in
theorem eq_clues (g h : Nat) (l : List ClueV) (c1 c2 b1 b2 : Nat) (w : World) (hn : l.length ≤ 1048576)
    (h1 : w.ownsRow b1 27 3 (.slice (some ⟨g, 0, none⟩) l.length c1) l.length (cellsG fClue l)) (h2 : w.ownsRow b2 27 3 (.slice (some ⟨h, 0, none⟩) l.length c2) l.length (cellsG fClue l)) :
    Calls Try.prog 61 #[.slice (some ⟨g, 0, none⟩) l.length c1, .slice (some ⟨h, 0, none⟩) l.length c2] w fun e w' => e = .returned (.bool true) ∧ Below w.heap.size w w' := by
  have sg : g < w.heap.size := own_lt h1 rfl
  have sh : h < w.heap.size := own_lt h2 rfl
  go_enter Try.func61, Try.ntmps61
  go_wp2
  go_loopw [5] (fun i wr => ∃ k : Nat, k ≤ l.length ∧ i = .int .i64 k ∧ Below w.heap.size w wr) (fun i _ => l.length - (intOf i).toNat)
  case atStart => exact ⟨0, Nat.zero_le _, rfl, Below.refl _ _⟩
  case round =>
    obtain ⟨k, hk, rfl, hbel⟩ := hrel
    by_cases hlt : k < l.length
    · obtain ⟨p, hp⟩ : ∃ p, l[k]? = some p := ⟨_, List.getElem?_eq_getElem hlt⟩
      have hc := cellsG_get fClue_len l k p hp
      have ag0 : wr.cell? ⟨g, k * 3, none⟩ = some (.int .i64 p.k) := by rw [hbel.cell (p := ⟨g, k * 3, none⟩) sg, h1.cellAt _ (by omega)]; exact hc 0 _ rfl
      have ag1 : wr.cell? ⟨g, k * 3 + 1, none⟩ = some (.int .i64 p.a) := by rw [hbel.cell (p := ⟨g, k * 3 + 1, none⟩) sg, h1.cellAt _ (by omega)]; exact hc 1 _ rfl
      have ag2 : wr.cell? ⟨g, k * 3 + 2, none⟩ = some (.int .i64 p.b) := by rw [hbel.cell (p := ⟨g, k * 3 + 2, none⟩) sg, h1.cellAt _ (by omega)]; exact hc 2 _ rfl
      have ah0 : wr.cell? ⟨h, k * 3, none⟩ = some (.int .i64 p.k) := by rw [hbel.cell (p := ⟨h, k * 3, none⟩) sh, h2.cellAt _ (by omega)]; exact hc 0 _ rfl
      have ah1 : wr.cell? ⟨h, k * 3 + 1, none⟩ = some (.int .i64 p.a) := by rw [hbel.cell (p := ⟨h, k * 3 + 1, none⟩) sh, h2.cellAt _ (by omega)]; exact hc 1 _ rfl
      have ah2 : wr.cell? ⟨h, k * 3 + 2, none⟩ = some (.int .i64 p.b) := by rw [hbel.cell (p := ⟨h, k * 3 + 2, none⟩) sh, h2.cellAt _ (by omega)]; exact hc 2 _ rfl
      have z := hbel.size
      have s1 : g < wr.heap.size := by omega
      have s2 : h < wr.heap.size := by omega
      clear h1 h2 hc hp z
      go_wp2_with fail
      go_region_held3 (fun w' => w'.cell? ⟨g, k * 3, none⟩ = some (.int .i64 p.k) ∧ w'.cell? ⟨g, k * 3 + 1, none⟩ = some (.int .i64 p.a) ∧ w'.cell? ⟨g, k * 3 + 2, none⟩ = some (.int .i64 p.b) ∧ w'.cell? ⟨h, k * 3, none⟩ = some (.int .i64 p.k) ∧ w'.cell? ⟨h, k * 3 + 1, none⟩ = some (.int .i64 p.a) ∧ w'.cell? ⟨h, k * 3 + 2, none⟩ = some (.int .i64 p.b) ∧ g < w'.heap.size ∧ h < w'.heap.size) (((go_split_ands; (repeat' apply And.intro) <;> first | assumption | (simp [go_sem]; done) | go_keep))) (first | (go_at_call 96; refine (eqClue_same _ _ _ _).mono ?_; rintro e w1 ⟨rfl, hb⟩; go_split_ands; (have qg0 := (hb.cell (p := ⟨g, k * 3, none⟩) (by assumption)).trans (by assumption)); (have qg1 := (hb.cell (p := ⟨g, k * 3 + 1, none⟩) (by assumption)).trans (by assumption)); (have qg2 := (hb.cell (p := ⟨g, k * 3 + 2, none⟩) (by assumption)).trans (by assumption)); (have qh0 := (hb.cell (p := ⟨h, k * 3, none⟩) (by assumption)).trans (by assumption)); (have qh1 := (hb.cell (p := ⟨h, k * 3 + 1, none⟩) (by assumption)).trans (by assumption)); (have qh2 := (hb.cell (p := ⟨h, k * 3 + 2, none⟩) (by assumption)).trans (by assumption)); (have s5 : g < w1.heap.size := Nat.lt_of_lt_of_le (by assumption) hb.size); (have s6 : h < w1.heap.size := Nat.lt_of_lt_of_le (by assumption) hb.size)))
      all_goals go_wp2
      all_goals go_roundw
      case rel => exact ⟨k + 1, by omega, by go_num, by (repeat (first | with_reducible exact Below.refl _ _ | with_reducible assumption | with_reducible refine balloc ?_ _ | with_reducible refine bdrew ?_ | with_reducible refine below_drewN ?_ _ | with_reducible refine bset ?_ ?_ _ | with_reducible exact Nat.le_refl _ | with_reducible refine bsize ?_ | (dsimp only; refine Nat.le_trans ?_ (Nat.le_add_right _ _)) | with_reducible refine Nat.le_trans ?_ (Nat.le_add_right _ _) | (with_reducible refine bstep ?_ (by assumption))))⟩
      case measure => simp [intOf]; omega
    · have hkn : k = l.length := by omega
      clear h1 h2
      go_wp2
      go_ret
      refine ⟨rfl, ?_⟩
      (repeat (first | with_reducible exact Below.refl _ _ | with_reducible assumption | with_reducible refine balloc ?_ _ | with_reducible refine bdrew ?_ | with_reducible refine below_drewN ?_ _ | with_reducible refine bset ?_ ?_ _ | with_reducible exact Nat.le_refl _ | with_reducible refine bsize ?_ | (dsimp only; refine Nat.le_trans ?_ (Nat.le_add_right _ _)) | with_reducible refine Nat.le_trans ?_ (Nat.le_add_right _ _) | (with_reducible refine bstep ?_ (by assumption))))
end Go.Proofs.Ytiafmojmanhdoaa
