/- Camels: lists of places that increase (the program). -/
import Derived.Test.YtiafmojmanhdoaaAddUp
import Derived.Test.YtiafmojmanhdoaaCmp
import Derived.Deep.RegionHeld3
namespace Go.Proofs.Ytiafmojmanhdoaa
open Go.ChangeShapes Go.WideShapes Go.ChangeAt Go.RowKit Go.Joins
set_option maxRecDepth 100000
set_option linter.unusedVariables false
set_option linter.unusedSimpArgs false

/-- How the element number i stands to the next one. -/
def cmAt (l : List (Int × Int)) (i : Nat) : Int := match l[i]?, l[i + 1]? with | some p, some q => cmI p.1 p.2 q.1 q.2 | _, _ => -1
def incB (l : List (Int × Int)) : Bool := (List.range (l.length - 1)).all fun i => decide (cmAt l i < 0)
theorem cmAt_is (l : List (Int × Int)) (i : Nat) (p q : Int × Int) (hp : l[i]? = some p) (hq : l[i + 1]? = some q) : cmAt l i = cmI p.1 p.2 q.1 q.2 := by unfold cmAt; rw [hp, hq]
theorem incB_no (l : List (Int × Int)) (i : Nat) (hi : i + 1 < l.length) (h : ¬ cmAt l i < 0) : incB l = false := by
  rw [Bool.eq_false_iff]
  intro hb
  have := (List.all_eq_true.1 hb) i (List.mem_range.2 (by omega))
  exact h (of_decide_eq_true this)
theorem incB_yes (l : List (Int × Int)) (h : ∀ i, i + 1 < l.length → cmAt l i < 0) : incB l = true :=
  List.all_eq_true.2 fun i hi => decide_eq_true (h i (by have := List.mem_range.1 hi; omega))
set_option maxHeartbeats 1600000 in
theorem incr_some (a : Addr) (cap : Nat) (l : List (Int × Int)) (w : World) (hL : LiesG 2 fAmt w a cap l) :
    Calls Try.prog 125 #[.slice (some a) l.length cap] w fun e w' => e = .returned (.bool (incB l)) ∧ Below w.heap.size w w' := by
  have hlc := hL.hlc
  have hcap := hL.hcap
  go_enter Try.func125, Try.ntmps125
  go_wp2
  go_loopw [9] (fun i wr => ∃ k : Nat, (k + 1 ≤ l.length ∨ k = 0) ∧ i = .int .i64 k ∧ Hid (∀ j, j < k → cmAt l j < 0) ∧ Below w.heap.size w wr) (fun i _ => l.length - (intOf i).toNat)
  case atStart => exact ⟨0, Or.inr rfl, rfl, Lib.hid (fun j h => absurd h (by omega)), Below.refl _ _⟩
  case round =>
    obtain ⟨k, hk, rfl, hall, hbel⟩ := hrel
    by_cases hlt : k + 1 < l.length
    · obtain ⟨p, hp⟩ : ∃ p, l[k]? = some p := ⟨_, List.getElem?_eq_getElem (by omega)⟩
      obtain ⟨q, hq⟩ : ∃ q, l[k + 1]? = some q := ⟨_, List.getElem?_eq_getElem hlt⟩
      have hL2 := liesG_below hL hbel
      have hc := hL2.hcell (k) p hp
      have e0 := hc 0 p.1 rfl
      rw [Nat.add_zero] at e0
      have e1 : wr.cell? ⟨(a.add ((k) * 2)).block, (a.add ((k) * 2)).off + 1, none⟩ = some (.int .i64 p.2) := by
        have h := hc 1 p.2 rfl
        rw [← Deep.add_add] at h
        exact h
      clear hc
      have hc := hL2.hcell (k + 1) q hq
      have f0 := hc 0 q.1 rfl
      rw [Nat.add_zero] at f0
      have f1 : wr.cell? ⟨(a.add ((k + 1) * 2)).block, (a.add ((k + 1) * 2)).off + 1, none⟩ = some (.int .i64 q.2) := by
        have h := hc 1 q.2 rfl
        rw [← Deep.add_add] at h
        exact h
      clear hc
      have hbd := hL.hbd p (List.mem_of_getElem? hp)
      have b0 : -9223372036854775808 ≤ p.1 ∧ p.1 ≤ 9223372036854775807 := hbd p.1 (by simp [fAmt])
      have b1 : -9223372036854775808 ≤ p.2 ∧ p.2 ≤ 9223372036854775807 := hbd p.2 (by simp [fAmt])
      clear hbd
      have hbd := hL.hbd q (List.mem_of_getElem? hq)
      have d0 : -9223372036854775808 ≤ q.1 ∧ q.1 ≤ 9223372036854775807 := hbd q.1 (by simp [fAmt])
      have d1 : -9223372036854775808 ≤ q.2 ∧ q.2 ≤ 9223372036854775807 := hbd q.2 (by simp [fAmt])
      clear hbd
      have z0 := cell_lt e0
      have z1 := cell_lt f0
      have HC := Lib.hid (fun W => compare_impl p.1 p.2 q.1 q.2 b0 b1 d0 d1 W)
      have hcm := cmAt_is l k p q hp hq
      rw [← hcm] at HC
      have hno : Hid (¬ cmAt l k < 0 → incB l = false) := Lib.hid (fun h => incB_no l k hlt h)
      have hnx : Hid (cmAt l k < 0 → ∀ j, j < k + 1 → cmAt l j < 0) := Lib.hid (fun h j hj => by
        by_cases e : j = k
        · exact e ▸ h
        · exact hall.out j (by omega))
      generalize okk p.1 p.2 q.1 q.2 = B at *
      generalize cmAt l k = C at *
      clear hall hL2 hp hq b0 b1 d0 d1 hcm
      have i1 : (0 : Int) ≤ (k : Int) := by omega
      have i2 : (k : Int) < (l.length : Int) := by omega
      have i3 : (k : Int) + 1 < (l.length : Int) := by omega
      have i4 : (0 : Int) ≤ (k : Int) + 1 := by omega
      have i5 : ((k : Int) + 1).toNat = k + 1 := by omega
      have wq : IntKind.i64.wrap ((k : Int) + 1) = ((k + 1 : Nat) : Int) := by rw [IntWalk.i64_in _ (by omega)]; omega
      have hS := Lib.hid (fun (W : World) (h : Below wr.heap.size wr W) => (⟨h, (h.cell z0).trans e0, (h.cell (p := ⟨(a.add (k * 2)).block, (a.add (k * 2)).off + 1, none⟩) z0).trans e1, (h.cell z1).trans f0, (h.cell (p := ⟨(a.add ((k + 1) * 2)).block, (a.add ((k + 1) * 2)).off + 1, none⟩) z1).trans f1⟩ : Below wr.heap.size wr W ∧ W.cell? (a.add (k * 2)) = some (.int .i64 p.1) ∧ W.cell? ⟨(a.add (k * 2)).block, (a.add (k * 2)).off + 1, none⟩ = some (.int .i64 p.2) ∧ W.cell? (a.add ((k + 1) * 2)) = some (.int .i64 q.1) ∧ W.cell? ⟨(a.add ((k + 1) * 2)).block, (a.add ((k + 1) * 2)).off + 1, none⟩ = some (.int .i64 q.2)))
      go_upto_region 4 with fail
      go_region_held3 (fun W => Below wr.heap.size wr W ∧ W.cell? (a.add (k * 2)) = some (.int .i64 p.1) ∧ W.cell? ⟨(a.add (k * 2)).block, (a.add (k * 2)).off + 1, none⟩ = some (.int .i64 p.2) ∧ W.cell? (a.add ((k + 1) * 2)) = some (.int .i64 q.1) ∧ W.cell? ⟨(a.add ((k + 1) * 2)).block, (a.add ((k + 1) * 2)).off + 1, none⟩ = some (.int .i64 q.2)) ((refine hS.out _ ?_; first | with_reducible assumption | ((repeat (first | with_reducible exact Below.refl _ _ | with_reducible assumption | with_reducible refine balloc ?_ _ | with_reducible refine bdrew ?_ | with_reducible refine below_drewN ?_ _ | with_reducible refine bset ?_ ?_ _ | with_reducible exact Nat.le_refl _ | with_reducible refine bsize ?_ | (dsimp only; refine Nat.le_trans ?_ (Nat.le_add_right _ _)) | with_reducible refine Nat.le_trans ?_ (Nat.le_add_right _ _) | (with_reducible refine bstep ?_ (by assumption)))); done))) (first | (go_at_call 116; refine (HC.out _).mono ?_; rintro e w3 ⟨rfl, hb3⟩; (have f0 := bstep (by first | with_reducible assumption | ((repeat (first | with_reducible exact Below.refl _ _ | with_reducible assumption | with_reducible refine balloc ?_ _ | with_reducible refine bdrew ?_ | with_reducible refine below_drewN ?_ _ | with_reducible refine bset ?_ ?_ _ | with_reducible exact Nat.le_refl _ | with_reducible refine bsize ?_ | (dsimp only; refine Nat.le_trans ?_ (Nat.le_add_right _ _)) | with_reducible refine Nat.le_trans ?_ (Nat.le_add_right _ _) | (with_reducible refine bstep ?_ (by assumption)))); done) : Below wr.heap.size wr _) hb3); (have f1 := hS.out _ f0); go_split_ands))
      by_cases hC : C < 0
      · have hnx := Lib.hid (hnx.out hC)
        clear hno wq
        go_wp2
        go_roundw
        case rel => exact ⟨k + 1, Or.inl (by omega), by go_num, hnx, by (repeat (first | with_reducible exact Below.refl _ _ | with_reducible assumption | with_reducible refine balloc ?_ _ | with_reducible refine bdrew ?_ | with_reducible refine below_drewN ?_ _ | with_reducible refine bset ?_ ?_ _ | with_reducible exact Nat.le_refl _ | with_reducible refine bsize ?_ | (dsimp only; refine Nat.le_trans ?_ (Nat.le_add_right _ _)) | with_reducible refine Nat.le_trans ?_ (Nat.le_add_right _ _) | (with_reducible refine bstep ?_ (by assumption))))⟩
        case measure => simp [intOf]; omega
      · have hno := Lib.hid (hno.out (by omega))
        clear hnx wq
        go_wp2
        go_ret
        refine ⟨by rw [hno.out]; rfl, ?_⟩
        (repeat (first | with_reducible exact Below.refl _ _ | with_reducible assumption | with_reducible refine balloc ?_ _ | with_reducible refine bdrew ?_ | with_reducible refine below_drewN ?_ _ | with_reducible refine bset ?_ ?_ _ | with_reducible exact Nat.le_refl _ | with_reducible refine bsize ?_ | (dsimp only; refine Nat.le_trans ?_ (Nat.le_add_right _ _)) | with_reducible refine Nat.le_trans ?_ (Nat.le_add_right _ _) | (with_reducible refine bstep ?_ (by assumption))))
    · have hyes : Hid (incB l = true) := Lib.hid (incB_yes l (fun i hi => hall.out i (by omega)))
      clear hall
      go_wp2
      go_ret
      exact ⟨by rw [hyes.out]; rfl, hbel⟩
theorem incr_nil (w : World) : Calls Try.prog 125 #[.slice none 0 0] w fun e w' => e = .returned (.bool true) ∧ Below w.heap.size w w' := by
  go_enter Try.func125, Try.ntmps125
  go_wp2
  go_loopw [9] (fun i wr => i = .int .i64 0 ∧ wr = w) (fun _ _ => 0)
  case atStart => exact ⟨rfl, rfl⟩
  case round =>
    obtain ⟨rfl, rfl⟩ := hrel
    go_wp2
    go_ret
    exact ⟨rfl, Below.refl _ _⟩
theorem incr_row (v : Value) (l : List (Int × Int)) (w : World) (h : RowG 2 fAmt w v l) :
    Calls Try.prog 125 #[v] w fun e w' => e = .returned (.bool (incB l)) ∧ Below w.heap.size w w' := by
  rcases h with ⟨rfl, rfl⟩ | ⟨a, cap, rfl, hL⟩
  · exact incr_nil w
  · exact incr_some a cap l w hL
end Go.Proofs.Ytiafmojmanhdoaa
