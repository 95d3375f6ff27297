/- Is it a list of steps? The contracts on both sides. -/
import Derived.Test.YtkpeiibncbcdhaaLawIsStep
namespace Go.Proofs.Ytkpeiibncbcdhaa
open Go.ChangeShapes Go.WideShapes Go.ChangeAt Go.RowKit Go.Joins
set_option maxRecDepth 100000
set_option linter.unusedVariables false
set_option linter.unusedSimpArgs false

def allB (l : List StepV) : Bool := l.all fun p => stB p.k p.n p.d
def stepsB (l : List StepV) : Bool := decide (l.length ≤ 120) && allB l
theorem allB_take (l : List StepV) (k : Nat) (p : StepV) (hp : l[k]? = some p) (h : allB (l.take k) = true) : allB (l.take (k + 1)) = stB p.k p.n p.d := by
  have e : l.take (k + 1) = l.take k ++ [p] := by rw [List.take_add_one, hp]; rfl
  unfold allB at h ⊢
  rw [e, List.all_append, h]; simp
theorem allB_no (l : List StepV) (k : Nat) (p : StepV) (hp : l[k]? = some p) (h : stB p.k p.n p.d = false) : allB l = false := by
  unfold allB
  rw [List.all_eq_false]
  exact ⟨p, List.mem_of_getElem? hp, by simp [h]⟩

set_option maxHeartbeats 1600000 in
theorem areSteps_impl (a : Addr) (cap : Nat) (l : List StepV) (w : World) (hL : LiesG 3 fStep w a cap l) :
    Calls Try.prog 84 #[.slice (some a) l.length cap] w fun e w' => e = .returned (.bool (stepsB l)) ∧ Below w.heap.size w w' := by
  have hlc := hL.hlc
  have hcap := hL.hcap
  unfold stepsB
  by_cases h120 : l.length ≤ 120
  · have e : decide (l.length ≤ 120) = true := by simpa using h120
    rw [e, Bool.true_and]
    clear e
    go_enter Try.func84, Try.ntmps84
    go_wp2
    go_loopw [10] (fun i wr => ∃ k : Nat, k ≤ l.length ∧ i = .int .i64 k ∧ Hid (allB (l.take k) = true) ∧ Below w.heap.size w wr) (fun i _ => l.length - (intOf i).toNat)
    case atStart => exact ⟨0, Nat.zero_le _, rfl, rfl, Below.refl _ _⟩
    case round =>
      obtain ⟨k, hk, rfl, hall, hbel⟩ := hrel
      by_cases hlt : k < l.length
      · obtain ⟨p, hp⟩ : ∃ p, l[k]? = some p := ⟨_, List.getElem?_eq_getElem hlt⟩
        have hc := (liesG_below hL hbel).hcell k p hp
        have e0 := hc 0 p.k rfl
        rw [Nat.add_zero] at e0
        have e1 : wr.cell? ⟨(a.add (k * 3)).block, (a.add (k * 3)).off + 1, none⟩ = some (.int .i64 p.n) := by
          have h := hc 1 p.n rfl
          rw [← Deep.add_add] at h
          exact h
        have e2 : wr.cell? ⟨(a.add (k * 3)).block, (a.add (k * 3)).off + 2, none⟩ = some (.int .i64 p.d) := by
          have h := hc 2 p.d rfl
          rw [← Deep.add_add] at h
          exact h
        have hbd := hL.hbd p (List.mem_of_getElem? hp)
        have bn : -9223372036854775808 ≤ p.n ∧ p.n ≤ 9223372036854775807 := hbd p.n (by simp [fStep])
        have bd : -9223372036854775808 ≤ p.d ∧ p.d ≤ 9223372036854775807 := hbd p.d (by simp [fStep])
        clear hc hbd
        cases hs : stB p.k p.n p.d
        · have hno := Lib.hid (allB_no l k p hp hs)
          clear hp hall
          go_wp2_with fail
          refine (isStep_impl _ _ _ bn bd _).mono ?_
          rintro e w3 ⟨rfl, hb3⟩
          rw [hs]
          go_wp2
          rw [hno.out]
          go_ret
          refine ⟨rfl, ?_⟩
          (repeat (first | with_reducible exact Below.refl _ _ | with_reducible assumption | with_reducible refine balloc ?_ _ | with_reducible refine bdrew ?_ | with_reducible refine bset ?_ ?_ _ | with_reducible exact Nat.le_refl _ | with_reducible refine bsize ?_ | (dsimp only; refine Nat.le_trans ?_ (Nat.le_add_right _ _)) | with_reducible refine Nat.le_trans ?_ (Nat.le_add_right _ _) | (with_reducible refine bstep ?_ (by assumption))))
        · have hyes : Hid (allB (l.take (k + 1)) = true) := (allB_take l k p hp hall.out).trans hs
          clear hp hall
          go_wp2_with fail
          refine (isStep_impl _ _ _ bn bd _).mono ?_
          rintro e w3 ⟨rfl, hb3⟩
          rw [hs]
          go_wp2
          go_roundw
          case rel => exact ⟨k + 1, by omega, by go_num, hyes, by (repeat (first | with_reducible exact Below.refl _ _ | with_reducible assumption | with_reducible refine balloc ?_ _ | with_reducible refine bdrew ?_ | with_reducible refine bset ?_ ?_ _ | with_reducible exact Nat.le_refl _ | with_reducible refine bsize ?_ | (dsimp only; refine Nat.le_trans ?_ (Nat.le_add_right _ _)) | with_reducible refine Nat.le_trans ?_ (Nat.le_add_right _ _) | (with_reducible refine bstep ?_ (by assumption))))⟩
          case measure => simp [intOf]; omega
      · have hkl : k = l.length := by omega
        subst hkl
        have hfin : Hid (allB l = true) := by
          have := hall.out
          rwa [List.take_length] at this
        clear hall
        go_wp2
        rw [hfin.out]
        go_ret
        refine ⟨rfl, ?_⟩
        (repeat (first | with_reducible exact Below.refl _ _ | with_reducible assumption | with_reducible refine balloc ?_ _ | with_reducible refine bdrew ?_ | with_reducible refine bset ?_ ?_ _ | with_reducible exact Nat.le_refl _ | with_reducible refine bsize ?_ | (dsimp only; refine Nat.le_trans ?_ (Nat.le_add_right _ _)) | with_reducible refine Nat.le_trans ?_ (Nat.le_add_right _ _) | (with_reducible refine bstep ?_ (by assumption))))
  · have e : decide (l.length ≤ 120) = false := by simpa using h120
    rw [e, Bool.false_and]
    clear e
    go_enter Try.func84, Try.ntmps84
    go_wp2
    go_ret
    refine ⟨rfl, ?_⟩
    (repeat (first | with_reducible exact Below.refl _ _ | with_reducible assumption | with_reducible refine balloc ?_ _ | with_reducible refine bdrew ?_ | with_reducible refine bset ?_ ?_ _ | with_reducible exact Nat.le_refl _ | with_reducible refine bsize ?_ | (dsimp only; refine Nat.le_trans ?_ (Nat.le_add_right _ _)) | with_reducible refine Nat.le_trans ?_ (Nat.le_add_right _ _) | (with_reducible refine bstep ?_ (by assumption))))

set_option maxHeartbeats 1600000 in
theorem tpSteps_spec (a : Addr) (cap : Nat) (l : List StepV) (w : World) (hL : LiesG 3 fStep w a cap l) :
    Calls Try.prog 77 #[.slice (some a) l.length cap] w fun e w' => e = .returned (.bool (stepsB l)) ∧ Below w.heap.size w w' := by
  have hlc := hL.hlc
  have hcap := hL.hcap
  unfold stepsB
  by_cases h120 : l.length ≤ 120
  · have e : decide (l.length ≤ 120) = true := by simpa using h120
    rw [e, Bool.true_and]
    clear e
    go_enter Try.func77, Try.ntmps77
    go_wp2
    go_loopw [10] (fun i wr => ∃ k : Nat, k ≤ l.length ∧ i = .int .i64 k ∧ Hid (allB (l.take k) = true) ∧ Below w.heap.size w wr) (fun i _ => l.length - (intOf i).toNat)
    case atStart => exact ⟨0, Nat.zero_le _, rfl, rfl, Below.refl _ _⟩
    case round =>
      obtain ⟨k, hk, rfl, hall, hbel⟩ := hrel
      by_cases hlt : k < l.length
      · obtain ⟨p, hp⟩ : ∃ p, l[k]? = some p := ⟨_, List.getElem?_eq_getElem hlt⟩
        have hc := (liesG_below hL hbel).hcell k p hp
        have e0 := hc 0 p.k rfl
        rw [Nat.add_zero] at e0
        have e1 : wr.cell? ⟨(a.add (k * 3)).block, (a.add (k * 3)).off + 1, none⟩ = some (.int .i64 p.n) := by
          have h := hc 1 p.n rfl
          rw [← Deep.add_add] at h
          exact h
        have e2 : wr.cell? ⟨(a.add (k * 3)).block, (a.add (k * 3)).off + 2, none⟩ = some (.int .i64 p.d) := by
          have h := hc 2 p.d rfl
          rw [← Deep.add_add] at h
          exact h
        have hbd := hL.hbd p (List.mem_of_getElem? hp)
        have bn : -9223372036854775808 ≤ p.n ∧ p.n ≤ 9223372036854775807 := hbd p.n (by simp [fStep])
        have bd : -9223372036854775808 ≤ p.d ∧ p.d ≤ 9223372036854775807 := hbd p.d (by simp [fStep])
        clear hc hbd
        cases hs : stB p.k p.n p.d
        · have hno := Lib.hid (allB_no l k p hp hs)
          clear hp hall
          go_wp2_with fail
          refine (tpStep_spec _ _ _ _).mono ?_
          rintro e w3 ⟨rfl, hb3⟩
          rw [hs]
          go_wp2
          rw [hno.out]
          go_ret
          refine ⟨rfl, ?_⟩
          (repeat (first | with_reducible exact Below.refl _ _ | with_reducible assumption | with_reducible refine balloc ?_ _ | with_reducible refine bdrew ?_ | with_reducible refine bset ?_ ?_ _ | with_reducible exact Nat.le_refl _ | with_reducible refine bsize ?_ | (dsimp only; refine Nat.le_trans ?_ (Nat.le_add_right _ _)) | with_reducible refine Nat.le_trans ?_ (Nat.le_add_right _ _) | (with_reducible refine bstep ?_ (by assumption))))
        · have hyes : Hid (allB (l.take (k + 1)) = true) := (allB_take l k p hp hall.out).trans hs
          clear hp hall
          go_wp2_with fail
          refine (tpStep_spec _ _ _ _).mono ?_
          rintro e w3 ⟨rfl, hb3⟩
          rw [hs]
          go_wp2
          go_roundw
          case rel => exact ⟨k + 1, by omega, by go_num, hyes, by (repeat (first | with_reducible exact Below.refl _ _ | with_reducible assumption | with_reducible refine balloc ?_ _ | with_reducible refine bdrew ?_ | with_reducible refine bset ?_ ?_ _ | with_reducible exact Nat.le_refl _ | with_reducible refine bsize ?_ | (dsimp only; refine Nat.le_trans ?_ (Nat.le_add_right _ _)) | with_reducible refine Nat.le_trans ?_ (Nat.le_add_right _ _) | (with_reducible refine bstep ?_ (by assumption))))⟩
          case measure => simp [intOf]; omega
      · have hkl : k = l.length := by omega
        subst hkl
        have hfin : Hid (allB l = true) := by
          have := hall.out
          rwa [List.take_length] at this
        clear hall
        go_wp2
        rw [hfin.out]
        go_ret
        refine ⟨rfl, ?_⟩
        (repeat (first | with_reducible exact Below.refl _ _ | with_reducible assumption | with_reducible refine balloc ?_ _ | with_reducible refine bdrew ?_ | with_reducible refine bset ?_ ?_ _ | with_reducible exact Nat.le_refl _ | with_reducible refine bsize ?_ | (dsimp only; refine Nat.le_trans ?_ (Nat.le_add_right _ _)) | with_reducible refine Nat.le_trans ?_ (Nat.le_add_right _ _) | (with_reducible refine bstep ?_ (by assumption))))
  · have e : decide (l.length ≤ 120) = false := by simpa using h120
    rw [e, Bool.false_and]
    clear e
    go_enter Try.func77, Try.ntmps77
    go_wp2
    go_ret
    refine ⟨rfl, ?_⟩
    (repeat (first | with_reducible exact Below.refl _ _ | with_reducible assumption | with_reducible refine balloc ?_ _ | with_reducible refine bdrew ?_ | with_reducible refine bset ?_ ?_ _ | with_reducible exact Nat.le_refl _ | with_reducible refine bsize ?_ | (dsimp only; refine Nat.le_trans ?_ (Nat.le_add_right _ _)) | with_reducible refine Nat.le_trans ?_ (Nat.le_add_right _ _) | (with_reducible refine bstep ?_ (by assumption))))
end Go.Proofs.Ytkpeiibncbcdhaa
