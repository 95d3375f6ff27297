/- The laws' comparisons of lists: two rows of one list are equal. -/
import Derived.Test.YtgpbkjakmbmccaaXc
import Derived.Test.YtgpbkjakmbmccaaDepotT
import Derived.Test.YtgpbkjakmbmccaaHandT
import Derived.Test.YtgpbkjakmbmccaaAddUp
import Derived.Test.YtgpbkjakmbmccaaOInt
namespace Go.Proofs.Ytgpbkjakmbmccaa
open Go.ChangeShapes Go.WideShapes Go.ChangeAt Go.RowKit Go.Joins
set_option maxRecDepth 100000
set_option linter.unusedVariables false
set_option linter.unusedSimpArgs false

set_option maxHeartbeats 1600000 in
theorem xDepots_same (v1 v2 : Value) (l : List DepotV) (b1 b2 : Nat) (w : World) (hn : l.length ≤ 1048576) (h1 : w.ownsRow b1 41 4 v1 l.length (cellsG fDepot l)) (h2 : w.ownsRow b2 41 4 v2 l.length (cellsG fDepot l)) :
    Calls Try.prog 24 #[v1, v2] w fun e w' => e = .returned (.bool true) ∧ Below w.heap.size w w' := by
  obtain ⟨a1, c1, rfl⟩ := owns_shape h1
  obtain ⟨a2, c2, rfl⟩ := owns_shape h2
  go_enter Try.func24, Try.ntmps24
  go_wp2
  go_loopw [13] (fun i wr => ∃ k : Nat, k ≤ l.length ∧ i = .int .i64 k ∧ Below w.heap.size w wr) (fun i _ => l.length - (intOf i).toNat)
  case atStart => exact ⟨0, Nat.zero_le _, rfl, Below.refl _ _⟩
  case round =>
    obtain ⟨k, hk, rfl, hbel⟩ := hrel
    by_cases hlt : k < l.length
    · obtain ⟨p, hp⟩ : ∃ p, l[k]? = some p := ⟨_, List.getElem?_eq_getElem hlt⟩
      obtain ⟨g1, rfl, z1, q1, r1, x1⟩ := row_at fDepot_len rfl h1 hp
      obtain ⟨g2, rfl, z2, q2, r2, x2⟩ := row_at fDepot_len rfl h2 hp
      have a10 := keepa hbel z1 (x1 0 _ rfl)
      have a11 := keepa hbel z1 (x1 1 _ rfl)
      have a12 := keepa hbel z1 (x1 2 _ rfl)
      have a13 := keepa hbel z1 (x1 3 _ rfl)
      rw [Nat.add_zero] at a10
      have a20 := keepa hbel z2 (x2 0 _ rfl)
      have a21 := keepa hbel z2 (x2 1 _ rfl)
      have a22 := keepa hbel z2 (x2 2 _ rfl)
      have a23 := keepa hbel z2 (x2 3 _ rfl)
      rw [Nat.add_zero] at a20
      clear h1 h2 x1 x2 hp
      go_wp2
      all_goals (try go_region)
      all_goals (try go_wp2)
      all_goals go_roundw
      case rel => exact ⟨k + 1, by omega, by go_num, by (repeat (first | with_reducible exact Below.refl _ _ | with_reducible assumption | with_reducible refine balloc ?_ _ | with_reducible refine bdrew ?_ | with_reducible refine below_drewN ?_ _ | with_reducible refine bset ?_ ?_ _ | with_reducible exact Nat.le_refl _ | with_reducible refine bsize ?_ | (dsimp only; refine Nat.le_trans ?_ (Nat.le_add_right _ _)) | with_reducible refine Nat.le_trans ?_ (Nat.le_add_right _ _) | (with_reducible refine bstep ?_ (by assumption))))⟩
      case measure => simp [intOf]; omega
    · have hkn : k = l.length := by omega
      clear h1 h2
      go_wp2
      go_ret
      exact ⟨rfl, by (repeat (first | with_reducible exact Below.refl _ _ | with_reducible assumption | with_reducible refine balloc ?_ _ | with_reducible refine bdrew ?_ | with_reducible refine below_drewN ?_ _ | with_reducible refine bset ?_ ?_ _ | with_reducible exact Nat.le_refl _ | with_reducible refine bsize ?_ | (dsimp only; refine Nat.le_trans ?_ (Nat.le_add_right _ _)) | with_reducible refine Nat.le_trans ?_ (Nat.le_add_right _ _) | (with_reducible refine bstep ?_ (by assumption))))⟩
set_option maxHeartbeats 1600000 in
theorem xSame_same (v1 v2 : Value) (l : List Int) (b1 b2 : Nat) (w : World) (hn : l.length ≤ 1048576) (h1 : w.ownsRow b1 3 1 v1 l.length (cellsG fInt l)) (h2 : w.ownsRow b2 3 1 v2 l.length (cellsG fInt l)) :
    Calls Try.prog 25 #[v1, v2] w fun e w' => e = .returned (.bool true) ∧ Below w.heap.size w w' := by
  obtain ⟨a1, c1, rfl⟩ := owns_shape h1
  obtain ⟨a2, c2, rfl⟩ := owns_shape h2
  go_enter Try.func25, Try.ntmps25
  go_wp2
  go_loopw [13] (fun i wr => ∃ k : Nat, k ≤ l.length ∧ i = .int .i64 k ∧ Below w.heap.size w wr) (fun i _ => l.length - (intOf i).toNat)
  case atStart => exact ⟨0, Nat.zero_le _, rfl, Below.refl _ _⟩
  case round =>
    obtain ⟨k, hk, rfl, hbel⟩ := hrel
    by_cases hlt : k < l.length
    · obtain ⟨p, hp⟩ : ∃ p, l[k]? = some p := ⟨_, List.getElem?_eq_getElem hlt⟩
      obtain ⟨g1, rfl, z1, q1, r1, x1⟩ := row_at fInt_len rfl h1 hp
      obtain ⟨g2, rfl, z2, q2, r2, x2⟩ := row_at fInt_len rfl h2 hp
      have a10 := keepa hbel z1 (x1 0 _ rfl)
      rw [Nat.mul_one, Nat.add_zero] at a10
      have a20 := keepa hbel z2 (x2 0 _ rfl)
      rw [Nat.mul_one, Nat.add_zero] at a20
      clear h1 h2 x1 x2 hp
      go_wp2
      all_goals (try go_region)
      all_goals (try go_wp2)
      all_goals go_roundw
      case rel => exact ⟨k + 1, by omega, by go_num, by (repeat (first | with_reducible exact Below.refl _ _ | with_reducible assumption | with_reducible refine balloc ?_ _ | with_reducible refine bdrew ?_ | with_reducible refine below_drewN ?_ _ | with_reducible refine bset ?_ ?_ _ | with_reducible exact Nat.le_refl _ | with_reducible refine bsize ?_ | (dsimp only; refine Nat.le_trans ?_ (Nat.le_add_right _ _)) | with_reducible refine Nat.le_trans ?_ (Nat.le_add_right _ _) | (with_reducible refine bstep ?_ (by assumption))))⟩
      case measure => simp [intOf]; omega
    · have hkn : k = l.length := by omega
      clear h1 h2
      go_wp2
      go_ret
      exact ⟨rfl, by (repeat (first | with_reducible exact Below.refl _ _ | with_reducible assumption | with_reducible refine balloc ?_ _ | with_reducible refine bdrew ?_ | with_reducible refine below_drewN ?_ _ | with_reducible refine bset ?_ ?_ _ | with_reducible exact Nat.le_refl _ | with_reducible refine bsize ?_ | (dsimp only; refine Nat.le_trans ?_ (Nat.le_add_right _ _)) | with_reducible refine Nat.le_trans ?_ (Nat.le_add_right _ _) | (with_reducible refine bstep ?_ (by assumption))))⟩
set_option maxHeartbeats 1600000 in
theorem xAmounts_same (v1 v2 : Value) (l : List (Int × Int)) (b1 b2 : Nat) (w : World) (hn : l.length ≤ 1048576) (h1 : w.ownsRow b1 26 2 v1 l.length (cellsG fAmt l)) (h2 : w.ownsRow b2 26 2 v2 l.length (cellsG fAmt l)) :
    Calls Try.prog 26 #[v1, v2] w fun e w' => e = .returned (.bool true) ∧ Below w.heap.size w w' := by
  obtain ⟨a1, c1, rfl⟩ := owns_shape h1
  obtain ⟨a2, c2, rfl⟩ := owns_shape h2
  go_enter Try.func26, Try.ntmps26
  go_wp2
  go_loopw [13] (fun i wr => ∃ k : Nat, k ≤ l.length ∧ i = .int .i64 k ∧ Below w.heap.size w wr) (fun i _ => l.length - (intOf i).toNat)
  case atStart => exact ⟨0, Nat.zero_le _, rfl, Below.refl _ _⟩
  case round =>
    obtain ⟨k, hk, rfl, hbel⟩ := hrel
    by_cases hlt : k < l.length
    · obtain ⟨p, hp⟩ : ∃ p, l[k]? = some p := ⟨_, List.getElem?_eq_getElem hlt⟩
      obtain ⟨g1, rfl, z1, q1, r1, x1⟩ := row_at fAmt_len rfl h1 hp
      obtain ⟨g2, rfl, z2, q2, r2, x2⟩ := row_at fAmt_len rfl h2 hp
      have a10 := keepa hbel z1 (x1 0 _ rfl)
      have a11 := keepa hbel z1 (x1 1 _ rfl)
      rw [Nat.add_zero] at a10
      have a20 := keepa hbel z2 (x2 0 _ rfl)
      have a21 := keepa hbel z2 (x2 1 _ rfl)
      rw [Nat.add_zero] at a20
      clear h1 h2 x1 x2 hp
      go_wp2
      all_goals (try go_region)
      all_goals (try go_wp2)
      all_goals go_roundw
      case rel => exact ⟨k + 1, by omega, by go_num, by (repeat (first | with_reducible exact Below.refl _ _ | with_reducible assumption | with_reducible refine balloc ?_ _ | with_reducible refine bdrew ?_ | with_reducible refine below_drewN ?_ _ | with_reducible refine bset ?_ ?_ _ | with_reducible exact Nat.le_refl _ | with_reducible refine bsize ?_ | (dsimp only; refine Nat.le_trans ?_ (Nat.le_add_right _ _)) | with_reducible refine Nat.le_trans ?_ (Nat.le_add_right _ _) | (with_reducible refine bstep ?_ (by assumption))))⟩
      case measure => simp [intOf]; omega
    · have hkn : k = l.length := by omega
      clear h1 h2
      go_wp2
      go_ret
      exact ⟨rfl, by (repeat (first | with_reducible exact Below.refl _ _ | with_reducible assumption | with_reducible refine balloc ?_ _ | with_reducible refine bdrew ?_ | with_reducible refine below_drewN ?_ _ | with_reducible refine bset ?_ ?_ _ | with_reducible exact Nat.le_refl _ | with_reducible refine bsize ?_ | (dsimp only; refine Nat.le_trans ?_ (Nat.le_add_right _ _)) | with_reducible refine Nat.le_trans ?_ (Nat.le_add_right _ _) | (with_reducible refine bstep ?_ (by assumption))))⟩
set_option maxHeartbeats 1600000 in
theorem xStops_same (v1 v2 : Value) (l : List HandV) (b1 b2 : Nat) (w : World) (hn : l.length ≤ 1048576) (h1 : w.ownsRow b1 58 6 v1 l.length (cellsG fHand l)) (h2 : w.ownsRow b2 58 6 v2 l.length (cellsG fHand l)) :
    Calls Try.prog 46 #[v1, v2] w fun e w' => e = .returned (.bool true) ∧ Below w.heap.size w w' := by
  obtain ⟨a1, c1, rfl⟩ := owns_shape h1
  obtain ⟨a2, c2, rfl⟩ := owns_shape h2
  go_enter Try.func46, Try.ntmps46
  go_wp2
  go_loopw [13] (fun i wr => ∃ k : Nat, k ≤ l.length ∧ i = .int .i64 k ∧ Below w.heap.size w wr) (fun i _ => l.length - (intOf i).toNat)
  case atStart => exact ⟨0, Nat.zero_le _, rfl, Below.refl _ _⟩
  case round =>
    obtain ⟨k, hk, rfl, hbel⟩ := hrel
    by_cases hlt : k < l.length
    · obtain ⟨p, hp⟩ : ∃ p, l[k]? = some p := ⟨_, List.getElem?_eq_getElem hlt⟩
      obtain ⟨g1, rfl, z1, q1, r1, x1⟩ := row_at fHand_len rfl h1 hp
      obtain ⟨g2, rfl, z2, q2, r2, x2⟩ := row_at fHand_len rfl h2 hp
      have a10 := keepa hbel z1 (x1 0 _ rfl)
      have a11 := keepa hbel z1 (x1 1 _ rfl)
      have a12 := keepa hbel z1 (x1 2 _ rfl)
      have a13 := keepa hbel z1 (x1 3 _ rfl)
      have a14 := keepa hbel z1 (x1 4 _ rfl)
      have a15 := keepa hbel z1 (x1 5 _ rfl)
      rw [Nat.add_zero] at a10
      have a20 := keepa hbel z2 (x2 0 _ rfl)
      have a21 := keepa hbel z2 (x2 1 _ rfl)
      have a22 := keepa hbel z2 (x2 2 _ rfl)
      have a23 := keepa hbel z2 (x2 3 _ rfl)
      have a24 := keepa hbel z2 (x2 4 _ rfl)
      have a25 := keepa hbel z2 (x2 5 _ rfl)
      rw [Nat.add_zero] at a20
      clear h1 h2 x1 x2 hp
      go_wp2
      all_goals (try go_region)
      all_goals (try go_wp2)
      all_goals go_roundw
      case rel => exact ⟨k + 1, by omega, by go_num, by (repeat (first | with_reducible exact Below.refl _ _ | with_reducible assumption | with_reducible refine balloc ?_ _ | with_reducible refine bdrew ?_ | with_reducible refine below_drewN ?_ _ | with_reducible refine bset ?_ ?_ _ | with_reducible exact Nat.le_refl _ | with_reducible refine bsize ?_ | (dsimp only; refine Nat.le_trans ?_ (Nat.le_add_right _ _)) | with_reducible refine Nat.le_trans ?_ (Nat.le_add_right _ _) | (with_reducible refine bstep ?_ (by assumption))))⟩
      case measure => simp [intOf]; omega
    · have hkn : k = l.length := by omega
      clear h1 h2
      go_wp2
      go_ret
      exact ⟨rfl, by (repeat (first | with_reducible exact Below.refl _ _ | with_reducible assumption | with_reducible refine balloc ?_ _ | with_reducible refine bdrew ?_ | with_reducible refine below_drewN ?_ _ | with_reducible refine bset ?_ ?_ _ | with_reducible exact Nat.le_refl _ | with_reducible refine bsize ?_ | (dsimp only; refine Nat.le_trans ?_ (Nat.le_add_right _ _)) | with_reducible refine Nat.le_trans ?_ (Nat.le_add_right _ _) | (with_reducible refine bstep ?_ (by assumption))))⟩
end Go.Proofs.Ytgpbkjakmbmccaa
