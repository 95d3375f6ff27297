/- Rows of whole numbers that a call owns: the laws' helpers that compare two of them, write one and read it again. -/
import Derived.Test.YtlfbnogkbdgnaaaUp
import Derived.Test.YtlfbnogkbdgnaaaLawBase
import Derived.OneCell
namespace Go.Proofs.Ytlfbnogkbdgnaaa
open Go.ChangeShapes Go.WideShapes Go.ChangeAt Go.RowKit Go.Joins
set_option linter.unusedVariables false
set_option linter.unusedSimpArgs false

theorem mapInt_get (l : List Int) (k : Nat) (x : Int) (h : l[k]? = some x) : (l.map (Value.int .i64))[k]? = some (.int .i64 x) := by simp [h]
theorem mapInt_len (l : List Int) : (l.map (Value.int .i64)).length = l.length := by simp

theorem eq_ints_nil (a b : Option Addr) (c c' : Nat) (w : World) :
    Calls Try.prog 51 #[.slice a 0 c, .slice b 0 c'] w fun e w' => e = .returned (.bool true) ∧ Below w.heap.size w w' := by
  go_enter Try.func51, Try.ntmps51
  go_wp2
  go_loopw [5] (fun i wr => i = .int .i64 0 ∧ wr = w) (fun _ _ => 0)
  case atStart => exact ⟨rfl, rfl⟩
  case round =>
    obtain ⟨rfl, rfl⟩ := hrel
    go_wp2
    go_ret
    refine ⟨rfl, ?_⟩
    (repeat (first | exact Below.refl _ _ | assumption | refine balloc ?_ _ | refine bdrew ?_ | refine bset ?_ ?_ _ | exact Nat.le_refl _ | refine bsize ?_ | (dsimp only; refine Nat.le_trans ?_ (Nat.le_add_right _ _)) | refine Nat.le_trans ?_ (Nat.le_add_right _ _) | (refine bstep ?_ (by assumption))))

set_option maxHeartbeats 800000 in
theorem eq_ints_some (g h c c' : Nat) (l : List Int) (w : World) (hg : g < w.heap.size) (hh : h < w.heap.size) (hl : l.length ≤ 9223372036854775807)
    (hc : ∀ (i : Nat) (x : Int), l[i]? = some x → w.cell? ⟨g, i, none⟩ = some (.int .i64 x)) (hd : ∀ (i : Nat) (x : Int), l[i]? = some x → w.cell? ⟨h, i, none⟩ = some (.int .i64 x)) :
    Calls Try.prog 51 #[.slice (some ⟨g, 0, none⟩) l.length c, .slice (some ⟨h, 0, none⟩) l.length c'] w fun e w' => e = .returned (.bool true) ∧ Below w.heap.size w w' := by
  go_enter Try.func51, Try.ntmps51
  go_wp2
  go_loopw [5] (fun i wr => ∃ k : Nat, k ≤ l.length ∧ i = .int .i64 k ∧ Below w.heap.size w wr) (fun i _ => l.length - (intOf i).toNat)
  case atStart => exact ⟨0, Nat.zero_le _, rfl, Below.refl _ _⟩
  case round =>
    obtain ⟨k, hk, rfl, hbel⟩ := hrel
    by_cases hlt : k < l.length
    · obtain ⟨x, hx⟩ : ∃ x, l[k]? = some x := ⟨_, List.getElem?_eq_getElem hlt⟩
      have e1 : wr.cell? ⟨g, k, none⟩ = some (.int .i64 x) := by rw [hbel.cell (p := ⟨g, k, none⟩) hg]; exact hc k x hx
      have e2 : wr.cell? ⟨h, k, none⟩ = some (.int .i64 x) := by rw [hbel.cell (p := ⟨h, k, none⟩) hh]; exact hd k x hx
      clear hc hd hx
      go_wp2
      go_region
      all_goals
        go_wp2
        go_roundw
        case rel => exact ⟨k + 1, by omega, by go_num, by (repeat (first | exact Below.refl _ _ | assumption | refine balloc ?_ _ | refine bdrew ?_ | refine bset ?_ ?_ _ | exact Nat.le_refl _ | refine bsize ?_ | (dsimp only; refine Nat.le_trans ?_ (Nat.le_add_right _ _)) | refine Nat.le_trans ?_ (Nat.le_add_right _ _) | (refine bstep ?_ (by assumption))))⟩
        case measure => simp [intOf]; omega
    · have hkn : k = l.length := by omega
      clear hc hd
      go_wp2
      go_ret
      refine ⟨rfl, ?_⟩
      (repeat (first | exact Below.refl _ _ | assumption | refine balloc ?_ _ | refine bdrew ?_ | refine bset ?_ ?_ _ | exact Nat.le_refl _ | refine bsize ?_ | (dsimp only; refine Nat.le_trans ?_ (Nat.le_add_right _ _)) | refine Nat.le_trans ?_ (Nat.le_add_right _ _) | (refine bstep ?_ (by assumption))))

theorem mark_ints_nil (a : Option Addr) (c : Nat) (w : World) :
    Calls Try.prog 52 #[.slice a 0 c, .int .i64 1] w fun e w' => e = .returned (.int .i64 1) ∧ w' = w := by
  go_enter Try.func52, Try.ntmps52
  go_wp2
  go_loopw [1, 5] (fun m i wr => m = .int .i64 1 ∧ i = .int .i64 0 ∧ wr = w) (fun _ _ _ => 0)
  case atStart => exact ⟨rfl, rfl, rfl⟩
  case round =>
    obtain ⟨rfl, rfl, rfl⟩ := hrel
    go_wp2
    go_ret
    exact ⟨rfl, rfl⟩

set_option maxHeartbeats 800000 in
theorem mark_ints_some (base g n c : Nat) (xs : List Value) (w : World) (hn : n ≤ 1000000) (hown : w.ownsRow base 3 1 (.slice (some ⟨g, 0, none⟩) n c) n xs) :
    Calls Try.prog 52 #[.slice (some ⟨g, 0, none⟩) n c, .int .i64 1] w fun e w' => e = .returned (.int .i64 (1 + (n : Int))) ∧ w.grownBy w' (some g) ∧
      ∃ ys, w'.ownsRow base 3 1 (.slice (some ⟨g, 0, none⟩) n c) n ys ∧ ∀ i : Nat, i < n → ys[i]? = some (.int .i64 (1 + (i : Int))) := by
  go_enter Try.func52, Try.ntmps52
  go_wp2
  go_loopw [1, 5] (fun m i wr => ∃ (k : Nat) (ys : List Value), k ≤ n ∧ i = .int .i64 k ∧ m = .int .i64 (1 + (k : Int)) ∧ w.grownBy wr (some g) ∧ wr.ownsRow base 3 1 (.slice (some ⟨g, 0, none⟩) n c) n ys ∧ ∀ i : Nat, i < k → ys[i]? = some (.int .i64 (1 + (i : Int)))) (fun _ i _ => n - (intOf i).toNat)
  case atStart => exact ⟨0, xs, Nat.zero_le _, rfl, rfl, World.grownBy.refl _ _, hown, fun i hi => absurd hi (by omega)⟩
  case round =>
    obtain ⟨k, ys, hk, rfl, rfl, hgr, hrow, hall⟩ := hrel
    by_cases hlt : k < n
    · have hfr := hrow.frozenAt k
      obtain ⟨hst, hgs⟩ := hrow.stored k (.int .i64 (1 + (k : Int)))
      have hlen := hrow.1
      have hcell : ∃ u, wr.cell? ⟨g, k, none⟩ = some u := by
        rw [hrow.cellAt k (by omega)]
        exact ⟨_, List.getElem?_eq_getElem (by omega)⟩
      obtain ⟨u, hu⟩ := hcell
      go_wp2
      go_roundw
      case rel =>
        refine ⟨k + 1, ys.set k (.int .i64 (1 + (k : Int))), by omega, by go_num, by go_num, ?_, hst, ?_⟩
        · exact ⟨hgs.os.trans hgr.os, hgs.tape.trans hgr.tape, hgs.output.trans hgr.output, Nat.le_trans hgr.size hgs.size, fun j hj hne => (hgs.block j (Nat.lt_of_lt_of_le hj hgr.size) hne).trans (hgr.block j hj hne)⟩
        · intro i hi
          by_cases hik : i = k
          · subst hik; rw [List.getElem?_set_self (by omega)]
          · rw [List.getElem?_set_ne (fun e => hik e.symm)]; exact hall i (by omega)
      case measure => simp [intOf]; omega
    · have hkn : k = n := by omega
      subst hkn
      go_wp2
      go_ret
      exact ⟨rfl, hgr, ys, hrow, hall⟩

theorem held_ints_nil (a : Option Addr) (c : Nat) (w : World) :
    Calls Try.prog 53 #[.slice a 0 c, .int .i64 1] w fun e w' => e = .returned (.int .i64 1) ∧ Below w.heap.size w w' := by
  go_enter Try.func53, Try.ntmps53
  go_wp2
  go_loopw [1, 5] (fun m i wr => m = .int .i64 1 ∧ i = .int .i64 0 ∧ wr = w) (fun _ _ _ => 0)
  case atStart => exact ⟨rfl, rfl, rfl⟩
  case round =>
    obtain ⟨rfl, rfl, rfl⟩ := hrel
    go_wp2
    go_ret
    refine ⟨rfl, ?_⟩
    (repeat (first | exact Below.refl _ _ | assumption | refine balloc ?_ _ | refine bdrew ?_ | refine bset ?_ ?_ _ | exact Nat.le_refl _ | refine bsize ?_ | (dsimp only; refine Nat.le_trans ?_ (Nat.le_add_right _ _)) | refine Nat.le_trans ?_ (Nat.le_add_right _ _) | (refine bstep ?_ (by assumption))))

set_option maxHeartbeats 800000 in
theorem held_ints_some (g n c : Nat) (w : World) (hn : n ≤ 1000000) (hg : g < w.heap.size) (hc : ∀ i : Nat, i < n → w.cell? ⟨g, i, none⟩ = some (.int .i64 (1 + (i : Int)))) :
    Calls Try.prog 53 #[.slice (some ⟨g, 0, none⟩) n c, .int .i64 1] w fun e w' => e = .returned (.int .i64 (1 + (n : Int))) ∧ Below w.heap.size w w' := by
  go_enter Try.func53, Try.ntmps53
  go_wp2
  go_loopw [1, 5] (fun m i wr => ∃ k : Nat, k ≤ n ∧ i = .int .i64 k ∧ m = .int .i64 (1 + (k : Int)) ∧ Below w.heap.size w wr) (fun _ i _ => n - (intOf i).toNat)
  case atStart => exact ⟨0, Nat.zero_le _, rfl, rfl, Below.refl _ _⟩
  case round =>
    obtain ⟨k, hk, rfl, rfl, hbel⟩ := hrel
    by_cases hlt : k < n
    · have e1 : wr.cell? ⟨g, k, none⟩ = some (.int .i64 (1 + (k : Int))) := by rw [hbel.cell (p := ⟨g, k, none⟩) hg]; exact hc k hlt
      clear hc
      go_wp2
      try go_region
      all_goals
        go_roundw
        case rel => exact ⟨k + 1, by omega, by go_num, by go_num, by (repeat (first | exact Below.refl _ _ | assumption | refine balloc ?_ _ | refine bdrew ?_ | refine bset ?_ ?_ _ | exact Nat.le_refl _ | refine bsize ?_ | (dsimp only; refine Nat.le_trans ?_ (Nat.le_add_right _ _)) | refine Nat.le_trans ?_ (Nat.le_add_right _ _) | (refine bstep ?_ (by assumption))))⟩
        case measure => simp [intOf]; omega
    · have hkn : k = n := by omega
      subst hkn
      clear hc
      go_wp2
      go_ret
      refine ⟨rfl, ?_⟩
      (repeat (first | exact Below.refl _ _ | assumption | refine balloc ?_ _ | refine bdrew ?_ | refine bset ?_ ?_ _ | exact Nat.le_refl _ | refine bsize ?_ | (dsimp only; refine Nat.le_trans ?_ (Nat.le_add_right _ _)) | refine Nat.le_trans ?_ (Nat.le_add_right _ _) | (refine bstep ?_ (by assumption))))
end Go.Proofs.Ytlfbnogkbdgnaaa
