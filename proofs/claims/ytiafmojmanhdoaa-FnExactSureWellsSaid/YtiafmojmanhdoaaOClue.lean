/- The laws' helpers on an answer that is a list of clues: two without elements are equal; one is written, and read again. -/
import Derived.Test.YtiafmojmanhdoaaClueT
import Derived.Deep.RegionHeld3
namespace Go.Proofs.Ytiafmojmanhdoaa
open Go.ChangeShapes Go.WideShapes Go.ChangeAt Go.RowKit Go.Joins
set_option maxRecDepth 100000
set_option linter.unusedVariables false
set_option linter.unusedSimpArgs false

theorem eq_clues_nil (a b : Option Addr) (c c' : Nat) (w : World) :
    Calls Try.prog 61 #[.slice a 0 c, .slice b 0 c'] w fun e w' => e = .returned (.bool true) ∧ Below w.heap.size w w' := by
  go_enter Try.func61, Try.ntmps61
  go_wp2
  go_loopw [5] (fun i wr => i = .int .i64 0 ∧ wr = w) (fun _ _ => 0)
  case atStart => exact ⟨rfl, rfl⟩
  case round =>
    obtain ⟨rfl, rfl⟩ := hrel
    go_wp2
    go_ret
    refine ⟨rfl, ?_⟩
    (repeat (first | with_reducible exact Below.refl _ _ | with_reducible assumption | with_reducible refine balloc ?_ _ | with_reducible refine bdrew ?_ | with_reducible refine below_drewN ?_ _ | with_reducible refine bset ?_ ?_ _ | with_reducible exact Nat.le_refl _ | with_reducible refine bsize ?_ | (dsimp only; refine Nat.le_trans ?_ (Nat.le_add_right _ _)) | with_reducible refine Nat.le_trans ?_ (Nat.le_add_right _ _) | (with_reducible refine bstep ?_ (by assumption))))
theorem mark_clues_nil (a : Option Addr) (c : Nat) (s : Int) (w : World) :
    Calls Try.prog 62 #[.slice a 0 c, .int .i64 s] w fun e w' => e = .returned (.int .i64 s) ∧ Below w.heap.size w w' := by
  go_enter Try.func62, Try.ntmps62
  go_wp2
  go_loopw [1, 5] (fun m i wr => m = .int .i64 s ∧ i = .int .i64 0 ∧ wr = w) (fun _ _ _ => 0)
  case atStart => exact ⟨rfl, rfl, rfl⟩
  case round =>
    obtain ⟨rfl, rfl, rfl⟩ := hrel
    go_wp2
    go_ret
    refine ⟨rfl, ?_⟩
    (repeat (first | with_reducible exact Below.refl _ _ | with_reducible assumption | with_reducible refine balloc ?_ _ | with_reducible refine bdrew ?_ | with_reducible refine below_drewN ?_ _ | with_reducible refine bset ?_ ?_ _ | with_reducible exact Nat.le_refl _ | with_reducible refine bsize ?_ | (dsimp only; refine Nat.le_trans ?_ (Nat.le_add_right _ _)) | with_reducible refine Nat.le_trans ?_ (Nat.le_add_right _ _) | (with_reducible refine bstep ?_ (by assumption))))
theorem held_clues_nil (a : Option Addr) (c : Nat) (s : Int) (w : World) :
    Calls Try.prog 70 #[.slice a 0 c, .int .i64 s] w fun e w' => e = .returned (.int .i64 s) ∧ Below w.heap.size w w' := by
  go_enter Try.func70, Try.ntmps70
  go_wp2
  go_loopw [1, 5] (fun m i wr => m = .int .i64 s ∧ i = .int .i64 0 ∧ wr = w) (fun _ _ _ => 0)
  case atStart => exact ⟨rfl, rfl, rfl⟩
  case round =>
    obtain ⟨rfl, rfl, rfl⟩ := hrel
    go_wp2
    go_ret
    refine ⟨rfl, ?_⟩
    (repeat (first | with_reducible exact Below.refl _ _ | with_reducible assumption | with_reducible refine balloc ?_ _ | with_reducible refine bdrew ?_ | with_reducible refine below_drewN ?_ _ | with_reducible refine bset ?_ ?_ _ | with_reducible exact Nat.le_refl _ | with_reducible refine bsize ?_ | (dsimp only; refine Nat.le_trans ?_ (Nat.le_add_right _ _)) | with_reducible refine Nat.le_trans ?_ (Nat.le_add_right _ _) | (with_reducible refine bstep ?_ (by assumption))))

set_option maxHeartbeats 3200000 in
theorem mark_clues_some (base g n c : Nat) (s : Int) (xs : List Value) (w : World) (hn : n ≤ 1048576) (s0 : 0 ≤ s) (s1 : s ≤ 100000000) (hown : w.ownsRow base 27 3 (.slice (some ⟨g, 0, none⟩) n c) n xs) :
    Calls Try.prog 62 #[.slice (some ⟨g, 0, none⟩) n c, .int .i64 s] w fun e w' => e = .returned (.int .i64 (s + 3 * (n : Int))) ∧ w.grownBy w' (some g) ∧
      ∃ ys, w'.ownsRow base 27 3 (.slice (some ⟨g, 0, none⟩) n c) n ys ∧ ∀ i : Nat, i < n * 3 → ys[i]? = some (.int .i64 (s + (i : Int))) := by
  go_enter Try.func62, Try.ntmps62
  go_wp2
  go_loopw [1, 5] (fun m i wr => ∃ (k : Nat) (x : Int) (ys : List Value), k ≤ n ∧ i = .int .i64 k ∧ m = .int .i64 x ∧ x = s + 3 * (k : Int) ∧ w.grownBy wr (some g) ∧ wr.ownsRow base 27 3 (.slice (some ⟨g, 0, none⟩) n c) n ys ∧ ∀ i : Nat, i < k * 3 → ys[i]? = some (.int .i64 (s + (i : Int)))) (fun _ i _ => n - (intOf i).toNat)
  case atStart => exact ⟨0, s, xs, Nat.zero_le _, rfl, rfl, by simp, World.grownBy.refl _ _, hown, fun i hi => absurd hi (by omega)⟩
  case round =>
    obtain ⟨k, x, ys, hk, rfl, rfl, hx, hgr, hrow, hall⟩ := hrel
    by_cases hlt : k < n
    · have hlen := hrow.1
      have hx0 : 0 ≤ x := by omega
      have hx1 : x ≤ 1000000000 := by omega
      have f0 := hrow.frozenAt (k * 3)
      obtain ⟨u0, hu0⟩ : ∃ u, wr.cell? ⟨g, k * 3, none⟩ = some u := by
        rw [hrow.cellAt (k * 3) (by omega)]; exact ⟨_, List.getElem?_eq_getElem (by omega)⟩
      have f1 := hrow.frozenAt (k * 3 + 1)
      obtain ⟨u1, hu1⟩ : ∃ u, wr.cell? ⟨g, k * 3 + 1, none⟩ = some u := by
        rw [hrow.cellAt (k * 3 + 1) (by omega)]; exact ⟨_, List.getElem?_eq_getElem (by omega)⟩
      have f2 := hrow.frozenAt (k * 3 + 2)
      obtain ⟨u2, hu2⟩ : ∃ u, wr.cell? ⟨g, k * 3 + 2, none⟩ = some u := by
        rw [hrow.cellAt (k * 3 + 2) (by omega)]; exact ⟨_, List.getElem?_eq_getElem (by omega)⟩
      obtain ⟨st0, gr0⟩ := hrow.stored (k * 3) (.int .i64 (x))
      obtain ⟨st1, gr1⟩ := st0.stored (k * 3 + 1) (.int .i64 (x + 1))
      obtain ⟨st2, gr2⟩ := st1.stored (k * 3 + 2) (.int .i64 (x + 1 + 1))
      have HX := Lib.hid hx
      have HA := Lib.hid hall
      clear hx hall
      go_wp2
      go_roundw
      case rel =>
        have hall := HA.out
        have hx := HX.out
        refine ⟨k + 1, _, (((ys.set (k * 3) (.int .i64 (x))).set (k * 3 + 1) (.int .i64 (x + 1))).set (k * 3 + 2) (.int .i64 (x + 1 + 1))), by omega, by go_num, rfl, by omega, ?_, st2, ?_⟩
        · exact (grown_trans (grown_trans (grown_trans hgr gr0) gr1) gr2)
        · intro i hi
          by_cases h0 : i = k * 3
          · rw [h0]
            have e : s + ((k * 3 : Nat) : Int) = x := by omega
            rw [e]
            (repeat (first | rw [List.getElem?_set_self (by first | omega | (simp; omega))] | rw [List.getElem?_set_ne (by omega)]))
          by_cases h1 : i = k * 3 + 1
          · rw [h1]
            have e : s + ((k * 3 + 1 : Nat) : Int) = x + 1 := by omega
            rw [e]
            (repeat (first | rw [List.getElem?_set_self (by first | omega | (simp; omega))] | rw [List.getElem?_set_ne (by omega)]))
          by_cases h2 : i = k * 3 + 2
          · rw [h2]
            have e : s + ((k * 3 + 2 : Nat) : Int) = x + 1 + 1 := by omega
            rw [e]
            (repeat (first | rw [List.getElem?_set_self (by first | omega | (simp; omega))] | rw [List.getElem?_set_ne (by omega)]))
          (repeat rw [List.getElem?_set_ne (by omega)])
          exact hall i (by omega)
      case measure => simp [intOf]; omega
    · have hkn : k = n := by omega
      subst hkn
      have HE := Lib.hid hx
      have HA := Lib.hid hall
      clear hx hall
      go_wp2
      go_ret
      exact ⟨by rw [HE.out]; rfl, hgr, ys, hrow, HA.out⟩

set_option maxHeartbeats 3200000 in
theorem held_clues_some (base g n c : Nat) (s : Int) (ys : List Value) (w : World) (hn : n ≤ 1048576) (s0 : 0 ≤ s) (s1 : s ≤ 100000000) (hown : w.ownsRow base 27 3 (.slice (some ⟨g, 0, none⟩) n c) n ys) (hall : ∀ i : Nat, i < n * 3 → ys[i]? = some (.int .i64 (s + (i : Int)))) :
    Calls Try.prog 70 #[.slice (some ⟨g, 0, none⟩) n c, .int .i64 s] w fun e w' => e = .returned (.int .i64 (s + 3 * (n : Int))) ∧ Below w.heap.size w w' := by
  have sg : g < w.heap.size := own_lt hown rfl
  have hcl : ∀ i : Nat, i < n * 3 → w.cell? ⟨g, i, none⟩ = some (.int .i64 (s + (i : Int))) := fun i hi => (hown.cellAt i (by omega)).trans (hall i hi)
  clear hall hown
  have HC := Lib.hid hcl
  clear hcl
  go_enter Try.func70, Try.ntmps70
  go_wp2
  go_loopw [1, 5] (fun m i wr => ∃ (k : Nat) (x : Int), k ≤ n ∧ i = .int .i64 k ∧ m = .int .i64 x ∧ x = s + 3 * (k : Int) ∧ Below w.heap.size w wr) (fun _ i _ => n - (intOf i).toNat)
  case atStart => exact ⟨0, s, Nat.zero_le _, rfl, rfl, by simp, Below.refl _ _⟩
  case round =>
    obtain ⟨k, x, hk, rfl, rfl, hx, hbel⟩ := hrel
    by_cases hlt : k < n
    · have hx0 : 0 ≤ x := by omega
      have hx1 : x ≤ 1000000000 := by omega
      have hz := hbel.size
      have sr : g < wr.heap.size := by omega
      have e0 : wr.cell? ⟨g, k * 3, none⟩ = some (.int .i64 (x)) := by
        rw [hbel.cell (p := ⟨g, k * 3, none⟩) sg, HC.out _ (by omega)]; congr 2; omega
      have e1 : wr.cell? ⟨g, k * 3 + 1, none⟩ = some (.int .i64 (x + 1)) := by
        rw [hbel.cell (p := ⟨g, k * 3 + 1, none⟩) sg, HC.out _ (by omega)]; congr 2; omega
      have e2 : wr.cell? ⟨g, k * 3 + 2, none⟩ = some (.int .i64 (x + 1 + 1)) := by
        rw [hbel.cell (p := ⟨g, k * 3 + 2, none⟩) sg, HC.out _ (by omega)]; congr 2; omega
      have HX := Lib.hid hx
      clear hx hz
      go_wp2
      all_goals (try go_region)
      all_goals (try go_wp2)
      all_goals (try go_region)
      all_goals (try go_wp2)
      all_goals (try go_region)
      all_goals (try go_wp2)
      all_goals
        go_roundw
        case rel => exact ⟨k + 1, _, by omega, by go_num, rfl, by have := HX.out; omega, by (repeat (first | with_reducible exact Below.refl _ _ | with_reducible assumption | with_reducible refine balloc ?_ _ | with_reducible refine bdrew ?_ | with_reducible refine below_drewN ?_ _ | with_reducible refine bset ?_ ?_ _ | with_reducible exact Nat.le_refl _ | with_reducible refine bsize ?_ | (dsimp only; refine Nat.le_trans ?_ (Nat.le_add_right _ _)) | with_reducible refine Nat.le_trans ?_ (Nat.le_add_right _ _) | (with_reducible refine bstep ?_ (by assumption))))⟩
        case measure => simp [intOf]; omega
    · have hkn : k = n := by omega
      subst hkn
      have HE := Lib.hid hx
      clear hx
      go_wp2
      go_ret
      refine ⟨by rw [HE.out]; rfl, ?_⟩
      (repeat (first | with_reducible exact Below.refl _ _ | with_reducible assumption | with_reducible refine balloc ?_ _ | with_reducible refine bdrew ?_ | with_reducible refine below_drewN ?_ _ | with_reducible refine bset ?_ ?_ _ | with_reducible exact Nat.le_refl _ | with_reducible refine bsize ?_ | (dsimp only; refine Nat.le_trans ?_ (Nat.le_add_right _ _)) | with_reducible refine Nat.le_trans ?_ (Nat.le_add_right _ _) | (with_reducible refine bstep ?_ (by assumption))))
end Go.Proofs.Ytiafmojmanhdoaa
