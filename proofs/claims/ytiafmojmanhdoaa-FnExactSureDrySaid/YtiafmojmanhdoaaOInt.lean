/- The laws' helpers on an answer that is a list of ints: two without elements are equal; one is written, and read again. -/
import Derived.Test.YtiafmojmanhdoaaRow
import Derived.Deep.RegionHeld3
namespace Go.Proofs.Ytiafmojmanhdoaa
open Go.ChangeShapes Go.WideShapes Go.ChangeAt Go.RowKit Go.Joins
set_option maxRecDepth 100000
set_option linter.unusedVariables false
set_option linter.unusedSimpArgs false

def fInt (x : Int) : List Int := [x]
theorem fInt_len (x : Int) : (fInt x).length = 1 := rfl
theorem infoInt : (Try.prog.info? 3).map (fun i => (i.zero, i.size, i.bytes)) = some (some (.int .i64 0), 1, 8) := by kernel_rfl
theorem eq_ints_nil (a b : Option Addr) (c c' : Nat) (w : World) :
    Calls Try.prog 18 #[.slice a 0 c, .slice b 0 c'] w fun e w' => e = .returned (.bool true) ∧ Below w.heap.size w w' := by
  go_enter Try.func18, Try.ntmps18
  go_wp2
  go_loopw [5] (fun i wr => i = .int .i64 0 ∧ wr = w) (fun _ _ => 0)
  case atStart => exact ⟨rfl, rfl⟩
  case round =>
    obtain ⟨rfl, rfl⟩ := hrel
    go_wp2
    go_ret
    refine ⟨rfl, ?_⟩
    (repeat (first | with_reducible exact Below.refl _ _ | with_reducible assumption | with_reducible refine balloc ?_ _ | with_reducible refine bdrew ?_ | with_reducible refine below_drewN ?_ _ | with_reducible refine bset ?_ ?_ _ | with_reducible exact Nat.le_refl _ | with_reducible refine bsize ?_ | (dsimp only; refine Nat.le_trans ?_ (Nat.le_add_right _ _)) | with_reducible refine Nat.le_trans ?_ (Nat.le_add_right _ _) | (with_reducible refine bstep ?_ (by assumption))))
theorem mark_ints_nil (a : Option Addr) (c : Nat) (s : Int) (w : World) :
    Calls Try.prog 32 #[.slice a 0 c, .int .i64 s] w fun e w' => e = .returned (.int .i64 s) ∧ Below w.heap.size w w' := by
  go_enter Try.func32, Try.ntmps32
  go_wp2
  go_loopw [1, 5] (fun m i wr => m = .int .i64 s ∧ i = .int .i64 0 ∧ wr = w) (fun _ _ _ => 0)
  case atStart => exact ⟨rfl, rfl, rfl⟩
  case round =>
    obtain ⟨rfl, rfl, rfl⟩ := hrel
    go_wp2
    go_ret
    refine ⟨rfl, ?_⟩
    (repeat (first | with_reducible exact Below.refl _ _ | with_reducible assumption | with_reducible refine balloc ?_ _ | with_reducible refine bdrew ?_ | with_reducible refine below_drewN ?_ _ | with_reducible refine bset ?_ ?_ _ | with_reducible exact Nat.le_refl _ | with_reducible refine bsize ?_ | (dsimp only; refine Nat.le_trans ?_ (Nat.le_add_right _ _)) | with_reducible refine Nat.le_trans ?_ (Nat.le_add_right _ _) | (with_reducible refine bstep ?_ (by assumption))))
theorem held_ints_nil (a : Option Addr) (c : Nat) (s : Int) (w : World) :
    Calls Try.prog 33 #[.slice a 0 c, .int .i64 s] w fun e w' => e = .returned (.int .i64 s) ∧ Below w.heap.size w w' := by
  go_enter Try.func33, Try.ntmps33
  go_wp2
  go_loopw [1, 5] (fun m i wr => m = .int .i64 s ∧ i = .int .i64 0 ∧ wr = w) (fun _ _ _ => 0)
  case atStart => exact ⟨rfl, rfl, rfl⟩
  case round =>
    obtain ⟨rfl, rfl, rfl⟩ := hrel
    go_wp2
    go_ret
    refine ⟨rfl, ?_⟩
    (repeat (first | with_reducible exact Below.refl _ _ | with_reducible assumption | with_reducible refine balloc ?_ _ | with_reducible refine bdrew ?_ | with_reducible refine below_drewN ?_ _ | with_reducible refine bset ?_ ?_ _ | with_reducible exact Nat.le_refl _ | with_reducible refine bsize ?_ | (dsimp only; refine Nat.le_trans ?_ (Nat.le_add_right _ _)) | with_reducible refine Nat.le_trans ?_ (Nat.le_add_right _ _) | (with_reducible refine bstep ?_ (by assumption))))

set_option maxHeartbeats 800000 in
theorem eq_ints (g h : Nat) (l : List Int) (c1 c2 b1 b2 : Nat) (w : World) (hn : l.length ≤ 1048576)
    (h1 : w.ownsRow b1 3 1 (.slice (some ⟨g, 0, none⟩) l.length c1) l.length (cellsG fInt l)) (h2 : w.ownsRow b2 3 1 (.slice (some ⟨h, 0, none⟩) l.length c2) l.length (cellsG fInt l)) :
    Calls Try.prog 18 #[.slice (some ⟨g, 0, none⟩) l.length c1, .slice (some ⟨h, 0, none⟩) l.length c2] w fun e w' => e = .returned (.bool true) ∧ Below w.heap.size w w' := by
  have sg : g < w.heap.size := own_lt h1 rfl
  have sh : h < w.heap.size := own_lt h2 rfl
  go_enter Try.func18, Try.ntmps18
  go_wp2
  go_loopw [5] (fun i wr => ∃ k : Nat, k ≤ l.length ∧ i = .int .i64 k ∧ Below w.heap.size w wr) (fun i _ => l.length - (intOf i).toNat)
  case atStart => exact ⟨0, Nat.zero_le _, rfl, Below.refl _ _⟩
  case round =>
    obtain ⟨k, hk, rfl, hbel⟩ := hrel
    by_cases hlt : k < l.length
    · obtain ⟨x, hx⟩ : ∃ x, l[k]? = some x := ⟨_, List.getElem?_eq_getElem hlt⟩
      have hc := cellsG_get fInt_len l k x hx 0 x rfl
      rw [Nat.mul_one, Nat.add_zero] at hc
      have e1 : wr.cell? ⟨g, k, none⟩ = some (.int .i64 x) := by rw [hbel.cell (p := ⟨g, k, none⟩) sg, h1.cellAt _ (by omega)]; exact hc
      have e2 : wr.cell? ⟨h, k, none⟩ = some (.int .i64 x) := by rw [hbel.cell (p := ⟨h, k, none⟩) sh, h2.cellAt _ (by omega)]; exact hc
      clear h1 h2 hc hx
      go_wp2
      go_region
      all_goals
        go_wp2
        go_roundw
        case rel => exact ⟨k + 1, by omega, by go_num, by (repeat (first | with_reducible exact Below.refl _ _ | with_reducible assumption | with_reducible refine balloc ?_ _ | with_reducible refine bdrew ?_ | with_reducible refine below_drewN ?_ _ | with_reducible refine bset ?_ ?_ _ | with_reducible exact Nat.le_refl _ | with_reducible refine bsize ?_ | (dsimp only; refine Nat.le_trans ?_ (Nat.le_add_right _ _)) | with_reducible refine Nat.le_trans ?_ (Nat.le_add_right _ _) | (with_reducible refine bstep ?_ (by assumption))))⟩
        case measure => simp [intOf]; omega
    · have hkn : k = l.length := by omega
      clear h1 h2
      go_wp2
      go_ret
      refine ⟨rfl, ?_⟩
      (repeat (first | with_reducible exact Below.refl _ _ | with_reducible assumption | with_reducible refine balloc ?_ _ | with_reducible refine bdrew ?_ | with_reducible refine below_drewN ?_ _ | with_reducible refine bset ?_ ?_ _ | with_reducible exact Nat.le_refl _ | with_reducible refine bsize ?_ | (dsimp only; refine Nat.le_trans ?_ (Nat.le_add_right _ _)) | with_reducible refine Nat.le_trans ?_ (Nat.le_add_right _ _) | (with_reducible refine bstep ?_ (by assumption))))

set_option maxHeartbeats 3200000 in
theorem mark_ints_some (base g n c : Nat) (s : Int) (xs : List Value) (w : World) (hn : n ≤ 1048576) (s0 : 0 ≤ s) (s1 : s ≤ 100000000) (hown : w.ownsRow base 3 1 (.slice (some ⟨g, 0, none⟩) n c) n xs) :
    Calls Try.prog 32 #[.slice (some ⟨g, 0, none⟩) n c, .int .i64 s] w fun e w' => e = .returned (.int .i64 (s + (n : Int))) ∧ w.grownBy w' (some g) ∧
      ∃ ys, w'.ownsRow base 3 1 (.slice (some ⟨g, 0, none⟩) n c) n ys ∧ ∀ i : Nat, i < n → ys[i]? = some (.int .i64 (s + (i : Int))) := by
  go_enter Try.func32, Try.ntmps32
  go_wp2
  go_loopw [1, 5] (fun m i wr => ∃ (k : Nat) (x : Int) (ys : List Value), k ≤ n ∧ i = .int .i64 k ∧ m = .int .i64 x ∧ x = s + (k : Int) ∧ w.grownBy wr (some g) ∧ wr.ownsRow base 3 1 (.slice (some ⟨g, 0, none⟩) n c) n ys ∧ ∀ i : Nat, i < k → ys[i]? = some (.int .i64 (s + (i : Int)))) (fun _ i _ => n - (intOf i).toNat)
  case atStart => exact ⟨0, s, xs, Nat.zero_le _, rfl, rfl, by simp, World.grownBy.refl _ _, hown, fun i hi => absurd hi (by omega)⟩
  case round =>
    obtain ⟨k, x, ys, hk, rfl, rfl, hx, hgr, hrow, hall⟩ := hrel
    by_cases hlt : k < n
    · have hlen := hrow.1
      have hx0 : 0 ≤ x := by omega
      have hx1 : x ≤ 1000000000 := by omega
      have f0 := hrow.frozenAt (k)
      obtain ⟨u0, hu0⟩ : ∃ u, wr.cell? ⟨g, k, none⟩ = some u := by
        rw [hrow.cellAt (k) (by omega)]; exact ⟨_, List.getElem?_eq_getElem (by omega)⟩
      obtain ⟨st0, gr0⟩ := hrow.stored (k) (.int .i64 (x))
      have HX := Lib.hid hx
      have HA := Lib.hid hall
      clear hx hall
      go_wp2
      go_roundw
      case rel =>
        have hall := HA.out
        have hx := HX.out
        refine ⟨k + 1, _, (ys.set (k) (.int .i64 (x))), by omega, by go_num, rfl, by omega, ?_, st0, ?_⟩
        · exact (grown_trans hgr gr0)
        · intro i hi
          by_cases h0 : i = k
          · rw [h0]
            have e : s + ((k : Nat) : Int) = x := by omega
            rw [e]
            (repeat (first | rw [List.getElem?_set_self (by first | omega | (simp; omega))] | rw [List.getElem?_set_ne (by omega)]))
          (repeat rw [List.getElem?_set_ne (by omega)])
          exact hall i (by omega)
      case measure => simp [intOf]; omega
    · have hkn : k = n := by omega
      subst hkn
      have HE := Lib.hid hx
      have HA := Lib.hid hall
      clear hx hall
      go_wp2
      go_ret
      exact ⟨by rw [HE.out]; rfl, hgr, ys, hrow, HA.out⟩

set_option maxHeartbeats 3200000 in
theorem held_ints_some (base g n c : Nat) (s : Int) (ys : List Value) (w : World) (hn : n ≤ 1048576) (s0 : 0 ≤ s) (s1 : s ≤ 100000000) (hown : w.ownsRow base 3 1 (.slice (some ⟨g, 0, none⟩) n c) n ys) (hall : ∀ i : Nat, i < n → ys[i]? = some (.int .i64 (s + (i : Int)))) :
    Calls Try.prog 33 #[.slice (some ⟨g, 0, none⟩) n c, .int .i64 s] w fun e w' => e = .returned (.int .i64 (s + (n : Int))) ∧ Below w.heap.size w w' := by
  have sg : g < w.heap.size := own_lt hown rfl
  have hcl : ∀ i : Nat, i < n → w.cell? ⟨g, i, none⟩ = some (.int .i64 (s + (i : Int))) := fun i hi => (hown.cellAt i (by omega)).trans (hall i hi)
  clear hall hown
  have HC := Lib.hid hcl
  clear hcl
  go_enter Try.func33, Try.ntmps33
  go_wp2
  go_loopw [1, 5] (fun m i wr => ∃ (k : Nat) (x : Int), k ≤ n ∧ i = .int .i64 k ∧ m = .int .i64 x ∧ x = s + (k : Int) ∧ Below w.heap.size w wr) (fun _ i _ => n - (intOf i).toNat)
  case atStart => exact ⟨0, s, Nat.zero_le _, rfl, rfl, by simp, Below.refl _ _⟩
  case round =>
    obtain ⟨k, x, hk, rfl, rfl, hx, hbel⟩ := hrel
    by_cases hlt : k < n
    · have hx0 : 0 ≤ x := by omega
      have hx1 : x ≤ 1000000000 := by omega
      have hz := hbel.size
      have sr : g < wr.heap.size := by omega
      have e0 : wr.cell? ⟨g, k, none⟩ = some (.int .i64 (x)) := by
        rw [hbel.cell (p := ⟨g, k, none⟩) sg, HC.out _ (by omega)]; congr 2; omega
      have HX := Lib.hid hx
      clear hx hz
      go_wp2
      all_goals (try go_region)
      all_goals (try go_wp2)
      all_goals
        go_roundw
        case rel => exact ⟨k + 1, _, by omega, by go_num, rfl, by have := HX.out; omega, by (repeat (first | with_reducible exact Below.refl _ _ | with_reducible assumption | with_reducible refine balloc ?_ _ | with_reducible refine bdrew ?_ | with_reducible refine below_drewN ?_ _ | with_reducible refine bset ?_ ?_ _ | with_reducible exact Nat.le_refl _ | with_reducible refine bsize ?_ | (dsimp only; refine Nat.le_trans ?_ (Nat.le_add_right _ _)) | with_reducible refine Nat.le_trans ?_ (Nat.le_add_right _ _) | (with_reducible refine bstep ?_ (by assumption))))⟩
        case measure => simp [intOf]; omega
    · have hkn : k = n := by omega
      subst hkn
      have HE := Lib.hid hx
      clear hx
      go_wp2
      go_ret
      refine ⟨by rw [HE.out]; rfl, ?_⟩
      (repeat (first | with_reducible exact Below.refl _ _ | with_reducible assumption | with_reducible refine balloc ?_ _ | with_reducible refine bdrew ?_ | with_reducible refine below_drewN ?_ _ | with_reducible refine bset ?_ ?_ _ | with_reducible exact Nat.le_refl _ | with_reducible refine bsize ?_ | (dsimp only; refine Nat.le_trans ?_ (Nat.le_add_right _ _)) | with_reducible refine Nat.le_trans ?_ (Nat.le_add_right _ _) | (with_reducible refine bstep ?_ (by assumption))))
end Go.Proofs.Ytiafmojmanhdoaa
