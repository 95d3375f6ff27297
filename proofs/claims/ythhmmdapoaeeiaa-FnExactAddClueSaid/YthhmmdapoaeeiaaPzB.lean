/- Is it a puzzle: of the model. -/
import Derived.Test.YthhmmdapoaeeiaaPzA
import Derived.Test.YthhmmdapoaeeiaaClueT
import Derived.Deep.RegionHeld3
import Derived.Deep.DeepCutAuto
namespace Go.Proofs.Ythhmmdapoaeeiaa
open Go.ChangeShapes Go.WideShapes Go.ChangeAt Go.RowKit Go.Joins
set_option maxRecDepth 100000
set_option linter.unusedVariables false
set_option linter.unusedSimpArgs false


def clP (m : Int) (p : ClueV) : Bool := clB m p.k p.a p.b
def pzB (m : Int) (l : List ClueV) : Bool := miB m && (decide (l.length ≤ 8) && l.all (clP m))
theorem pzB_no1 {m : Int} {l : List ClueV} (h : miB m = false) : pzB m l = false := by simp [pzB, h]
theorem pzB_no2 {m : Int} {l : List ClueV} (h : ¬ l.length ≤ 8) : pzB m l = false := by simp [pzB, h]
theorem pzB_no3 {m : Int} {l : List ClueV} {k : Nat} {p : ClueV} (hp : l[k]? = some p) (h : clB m p.k p.a p.b = false) : pzB m l = false := by
  have h1 : l.all (clP m) = false := by
    rw [Bool.eq_false_iff]
    intro hh
    have h2 := (List.all_eq_true.1 hh) p (List.mem_of_getElem? hp)
    unfold clP at h2
    rw [h] at h2
    cases h2
  simp [pzB, h1]
theorem pzB_all {m : Int} {l : List ClueV} (h1 : miB m = true) (h2 : l.length ≤ 8) (h : ∀ j p, j < l.length → l[j]? = some p → clP m p = true) : pzB m l = true := by
  have h3 : l.all (clP m) = true := by
    rw [List.all_eq_true]
    intro p hp
    obtain ⟨j, hj⟩ := List.getElem?_of_mem hp
    exact h j p ((List.getElem?_eq_some_iff.1 hj).1) hj
  simp [pzB, h1, h2, h3]
theorem pzB_yes {m : Int} {l : List ClueV} (h : pzB m l = true) : miB m = true ∧ l.length ≤ 8 ∧ ∀ p ∈ l, clB m p.k p.a p.b = true := by
  simp only [pzB, Bool.and_eq_true, decide_eq_true_eq, List.all_eq_true] at h
  exact ⟨h.1, h.2.1, h.2.2⟩
set_option maxHeartbeats 3200000 in
theorem good9_spec (m : Int) (bm : (-9223372036854775808 ≤ m ∧ m ≤ 9223372036854775807)) (v : Value) (l : List ClueV) (w : World) (h : RowG 3 fClue w v l) :
    Calls Try.prog 24 #[.agg #[.int .i64 m, v]] w fun e w' => e = .returned (.bool (pzB m l)) ∧ Below w.heap.size w w' := by
  have h' := h
  obtain ⟨a0, c0, rfl, hl1, hl2⟩ := row_shape h'
  clear h'
  cases h1 : miB m
  · rw [pzB_no1 h1]
    clear h
    go_enter Try.func24, Try.ntmps24
    go_wp2_with (go_at_call 21; refine (mi_spec _ _).mono ?_; rintro e w1 ⟨rfl, rfl⟩; rw [h1])
    go_ret
    refine ⟨rfl, ?_⟩
    (repeat (first | with_reducible exact Below.refl _ _ | with_reducible assumption | with_reducible refine balloc ?_ _ | with_reducible refine bdrew ?_ | with_reducible refine below_drewN ?_ _ | with_reducible refine bset ?_ ?_ _ | with_reducible exact Nat.le_refl _ | with_reducible refine bsize ?_ | (dsimp only; refine Nat.le_trans ?_ (Nat.le_add_right _ _)) | with_reducible refine Nat.le_trans ?_ (Nat.le_add_right _ _) | (with_reducible refine bstep ?_ (by assumption))))
  by_cases h2 : l.length ≤ 8
  case neg =>
    rw [pzB_no2 h2]
    clear h
    go_enter Try.func24, Try.ntmps24
    go_wp2_with (go_at_call 21; refine (mi_spec _ _).mono ?_; rintro e w1 ⟨rfl, rfl⟩; rw [h1])
    go_ret
    refine ⟨rfl, ?_⟩
    (repeat (first | with_reducible exact Below.refl _ _ | with_reducible assumption | with_reducible refine balloc ?_ _ | with_reducible refine bdrew ?_ | with_reducible refine below_drewN ?_ _ | with_reducible refine bset ?_ ?_ _ | with_reducible exact Nat.le_refl _ | with_reducible refine bsize ?_ | (dsimp only; refine Nat.le_trans ?_ (Nat.le_add_right _ _)) | with_reducible refine Nat.le_trans ?_ (Nat.le_add_right _ _) | (with_reducible refine bstep ?_ (by assumption))))
  have hm := miB_yes h1
  obtain ⟨R, hR⟩ : ∃ R, Hid (pzB m l = R) := ⟨_, Lib.hid rfl⟩
  rw [hR.out]
  rcases h with ⟨hv, rfl⟩ | ⟨a, cap, hv, hL⟩
  · injection hv with q1 q2 q3
    subst q1 q3
    clear q2
    go_enter Try.func24, Try.ntmps24
    go_wp2_with (go_at_call 21; refine (mi_spec _ _).mono ?_; rintro e w1 ⟨rfl, rfl⟩; rw [h1])
    go_loopw [18] (fun i wr => i = .int .i64 0 ∧ Below w.heap.size w wr) (fun _ _ => 0)
    case atStart => exact ⟨rfl, by (repeat (first | with_reducible exact Below.refl _ _ | with_reducible assumption | with_reducible refine balloc ?_ _ | with_reducible refine bdrew ?_ | with_reducible refine below_drewN ?_ _ | with_reducible refine bset ?_ ?_ _ | with_reducible exact Nat.le_refl _ | with_reducible refine bsize ?_ | (dsimp only; refine Nat.le_trans ?_ (Nat.le_add_right _ _)) | with_reducible refine Nat.le_trans ?_ (Nat.le_add_right _ _) | (with_reducible refine bstep ?_ (by assumption))))⟩
    case round =>
      obtain ⟨rfl, hbel⟩ := hrel
      go_wp2
      go_ret
      refine ⟨by rw [← hR.out, pzB_all h1 h2 (by simp)]; rfl, ?_⟩
      (repeat (first | with_reducible exact Below.refl _ _ | with_reducible assumption | with_reducible refine balloc ?_ _ | with_reducible refine bdrew ?_ | with_reducible refine below_drewN ?_ _ | with_reducible refine bset ?_ ?_ _ | with_reducible exact Nat.le_refl _ | with_reducible refine bsize ?_ | (dsimp only; refine Nat.le_trans ?_ (Nat.le_add_right _ _)) | with_reducible refine Nat.le_trans ?_ (Nat.le_add_right _ _) | (with_reducible refine bstep ?_ (by assumption))))
  · injection hv with q1 q2 q3
    subst q1 q3
    clear q2
    have hLH := Lib.hid hL
    clear hL
    go_enter Try.func24, Try.ntmps24
    go_wp2_with (go_at_call 21; refine (mi_spec _ _).mono ?_; rintro e w1 ⟨rfl, rfl⟩; rw [h1])
    go_loopw [18] (fun i wr => ∃ k : Nat, k ≤ l.length ∧ i = .int .i64 k ∧ Hid (∀ j p, j < k → l[j]? = some p → clP m p = true) ∧ Below w.heap.size w wr ∧ wr.cell? ⟨w.heap.size, 0, none⟩ = some (.int .i64 m) ∧ w.heap.size < wr.heap.size) (fun i _ => l.length - (intOf i).toNat)
    case atStart => exact ⟨0, Nat.zero_le _, rfl, Lib.hid (fun j p h _ => absurd h (by omega)), by (repeat (first | with_reducible exact Below.refl _ _ | with_reducible assumption | with_reducible refine balloc ?_ _ | with_reducible refine bdrew ?_ | with_reducible refine below_drewN ?_ _ | with_reducible refine bset ?_ ?_ _ | with_reducible exact Nat.le_refl _ | with_reducible refine bsize ?_ | (dsimp only; refine Nat.le_trans ?_ (Nat.le_add_right _ _)) | with_reducible refine Nat.le_trans ?_ (Nat.le_add_right _ _) | (with_reducible refine bstep ?_ (by assumption)))), by simp [go_sem], by simp⟩
    case round =>
      obtain ⟨k, hk, rfl, hall, hbel, q0, qz⟩ := hrel
      have hL := hLH.out
      by_cases hlt : k < l.length
      · obtain ⟨p, hp⟩ : ∃ p, l[k]? = some p := ⟨_, List.getElem?_eq_getElem hlt⟩
        have hL2 := liesG_below hL hbel
        have hc := hL2.hcell k p hp
        have e0 := hc 0 p.k rfl
        rw [Nat.add_zero] at e0
        have e1 : wr.cell? ⟨(a.add (k * 3)).block, (a.add (k * 3)).off + 1, none⟩ = some (.int .i64 p.a) := by
          have h := hc 1 p.a rfl
          rw [← Deep.add_add] at h
          exact h
        have e2 : wr.cell? ⟨(a.add (k * 3)).block, (a.add (k * 3)).off + 2, none⟩ = some (.int .i64 p.b) := by
          have h := hc 2 p.b rfl
          rw [← Deep.add_add] at h
          exact h
        clear hc
        have HC := Lib.hid (fun W => cl_spec m p.k p.a p.b hm W)
        clear hL hL2
        cases hP : clB m p.k p.a p.b
        · have hno := Lib.hid (pzB_no3 hp hP)
          rw [hP] at HC
          clear hP hp hall
          go_wp2_with fail
          refine (HC.out _).mono ?_
          rintro e w2 ⟨rfl, hb2⟩
          go_wp2
          go_ret
          refine ⟨by rw [← hR.out, hno.out]; rfl, ?_⟩
          (repeat (first | with_reducible exact Below.refl _ _ | with_reducible assumption | with_reducible refine balloc ?_ _ | with_reducible refine bdrew ?_ | with_reducible refine below_drewN ?_ _ | with_reducible refine bset ?_ ?_ _ | with_reducible exact Nat.le_refl _ | with_reducible refine bsize ?_ | (dsimp only; refine Nat.le_trans ?_ (Nat.le_add_right _ _)) | with_reducible refine Nat.le_trans ?_ (Nat.le_add_right _ _) | (with_reducible refine bstep ?_ (by assumption))))
        · have hnext : Hid (∀ j p, j < k + 1 → l[j]? = some p → clP m p = true) := by
            have h := hall.out
            refine Lib.hid (fun j q hj hq => ?_)
            by_cases e : j = k
            · subst e
              rw [hp] at hq
              injection hq with hq
              subst hq
              exact hP
            · exact h j q (by omega) hq
          rw [hP] at HC
          clear hP hp hall
          go_wp2_with fail
          refine (HC.out _).mono ?_
          rintro e w2 ⟨rfl, hb2⟩
          have hb0 : Below wr.heap.size wr w2 := by (repeat (first | with_reducible exact Below.refl _ _ | with_reducible assumption | with_reducible refine balloc ?_ _ | with_reducible refine bdrew ?_ | with_reducible refine below_drewN ?_ _ | with_reducible refine bset ?_ ?_ _ | with_reducible exact Nat.le_refl _ | with_reducible refine bsize ?_ | (dsimp only; refine Nat.le_trans ?_ (Nat.le_add_right _ _)) | with_reducible refine Nat.le_trans ?_ (Nat.le_add_right _ _) | (with_reducible refine bstep ?_ (by assumption))))
          have q0' := keepa hb0 qz q0
          have qz' := Nat.lt_of_lt_of_le qz hb0.size
          have hbel' := bstep hbel hb0
          clear hb0 hb2
          go_wp2
          go_roundw
          case rel => exact ⟨k + 1, by omega, by go_num, hnext, by (repeat (first | with_reducible exact Below.refl _ _ | with_reducible assumption | with_reducible refine balloc ?_ _ | with_reducible refine bdrew ?_ | with_reducible refine below_drewN ?_ _ | with_reducible refine bset ?_ ?_ _ | with_reducible exact Nat.le_refl _ | with_reducible refine bsize ?_ | (dsimp only; refine Nat.le_trans ?_ (Nat.le_add_right _ _)) | with_reducible refine Nat.le_trans ?_ (Nat.le_add_right _ _) | (with_reducible refine bstep ?_ (by assumption)))), by first | assumption | (simp [go_sem]; done) | (simp [go_sem, *]; done), by first | assumption | (simp; omega)⟩
          case measure => simp [intOf]; omega
      · have hkn : k = l.length := by omega
        have hyes := Lib.hid (pzB_all (l := l) h1 h2 (fun j p hj hq => hall.out j p (by omega) hq))
        clear hL hall
        go_wp2
        go_ret
        refine ⟨by rw [← hR.out, hyes.out]; rfl, ?_⟩
        (repeat (first | with_reducible exact Below.refl _ _ | with_reducible assumption | with_reducible refine balloc ?_ _ | with_reducible refine bdrew ?_ | with_reducible refine below_drewN ?_ _ | with_reducible refine bset ?_ ?_ _ | with_reducible exact Nat.le_refl _ | with_reducible refine bsize ?_ | (dsimp only; refine Nat.le_trans ?_ (Nat.le_add_right _ _)) | with_reducible refine Nat.le_trans ?_ (Nat.le_add_right _ _) | (with_reducible refine bstep ?_ (by assumption))))
end Go.Proofs.Ythhmmdapoaeeiaa
