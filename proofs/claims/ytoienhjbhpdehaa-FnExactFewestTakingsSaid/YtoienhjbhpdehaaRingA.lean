/- Rings: the checks of both sides. -/
import Derived.Test.YtoienhjbhpdehaaRowS
import Derived.Test.YtoienhjbhpdehaaChlS
import Derived.Test.YtoienhjbhpdehaaIsAm
import Derived.Deep.RegionHeld3
import Derived.Deep.DeepCutAuto
namespace Go.Proofs.Ytoienhjbhpdehaa
open Go.ChangeShapes Go.WideShapes Go.ChangeAt Go.RowKit Go.Joins
set_option maxRecDepth 100000
set_option linter.unusedVariables false
set_option linter.unusedSimpArgs false


theorem stb_no {x y : Int} (h : staB x y = false) : inB x 0 1000 = false ∨ (inB x 0 1000 = true ∧ inB y 0 1000 = false) := by
  unfold staB at h
  cases h1 : inB x 0 1000
  · exact Or.inl rfl
  · rw [h1] at h
    exact Or.inr ⟨rfl, by simpa using h⟩
theorem stb_yes {x y : Int} (h : staB x y = true) : inB x 0 1000 = true ∧ inB y 0 1000 = true := by
  unfold staB at h
  simpa using h
set_option maxHeartbeats 1600000 in
theorem weSta_some (a : Addr) (cap : Nat) (l : List StaV) (w : World) (hL : LiesG 2 fSta w a cap l) :
    Calls Try.prog 10 #[.slice (some a) l.length cap] w fun e w' => e = .returned (.bool (lstB 20 l)) ∧ Below w.heap.size w w' := by
  have hlc := hL.hlc
  have hcap := hL.hcap
  unfold lstB
  by_cases h20 : l.length ≤ 20
  · have HB : Hid ((decide ((l.length : Int) ≤ 20) && l.all lstP) = l.all lstP) := Lib.hid (by simp; omega)
    rw [HB.out]
    clear HB
    go_enter Try.func10, Try.ntmps10
    go_wp2
    go_loopw [10] (fun i wr => ∃ k : Nat, k ≤ l.length ∧ i = .int .i64 k ∧ Hid (∀ j p, j < k → l[j]? = some p → lstP p = true) ∧ Below w.heap.size w wr) (fun i _ => l.length - (intOf i).toNat)
    case atStart => exact ⟨0, Nat.zero_le _, rfl, Lib.hid (fun j p h _ => absurd h (by omega)), Below.refl _ _⟩
    case round =>
      obtain ⟨k, hk, rfl, hall, hbel⟩ := hrel
      by_cases hlt : k < l.length
      · obtain ⟨p, hp⟩ : ∃ p, l[k]? = some p := ⟨_, List.getElem?_eq_getElem hlt⟩
        have hL2 := liesG_below hL hbel
        have hc := hL2.hcell k p hp
        have e0 := hc 0 p.a rfl
        rw [Nat.add_zero] at e0
        have e1 : wr.cell? ⟨(a.add (k * 2)).block, (a.add (k * 2)).off + 1, none⟩ = some (.int .i64 p.b) := by
          have h := hc 1 p.b rfl
          rw [← Deep.add_add] at h
          exact h
        clear hc
        cases hP : staB p.a p.b
        · have hno : Hid (l.all lstP = false) := by
            refine Lib.hid ?_
            rw [Bool.eq_false_iff]
            intro h
            have := (List.all_eq_true.1 h) p (List.mem_of_getElem? hp)
            unfold lstP at this
            rw [hP] at this
            cases this
          have hn := stb_no hP
          clear hL2 hP hall hp
          generalize p.a = x at *
          generalize p.b = y at *
          rcases hn with h1 | ⟨h1, h2⟩
          all_goals
            go_wp2_with (go_at_call 9; refine (in_spec _ _ _ _).mono ?_; rintro e w1 ⟨rfl, rfl⟩; first | rw [h1] | rw [h2])
            go_ret
            refine ⟨by rw [hno.out]; rfl, ?_⟩
            (repeat (first | with_reducible exact Below.refl _ _ | with_reducible assumption | with_reducible refine balloc ?_ _ | with_reducible refine bdrew ?_ | with_reducible refine below_drewN ?_ _ | with_reducible refine bset ?_ ?_ _ | with_reducible exact Nat.le_refl _ | with_reducible refine bsize ?_ | (dsimp only; refine Nat.le_trans ?_ (Nat.le_add_right _ _)) | with_reducible refine Nat.le_trans ?_ (Nat.le_add_right _ _) | (with_reducible refine bstep ?_ (by assumption))))
        · have hnext : Hid (∀ j p, j < k + 1 → l[j]? = some p → lstP p = true) := by
            have h := hall.out
            refine Lib.hid (fun j q hj hq => ?_)
            by_cases e : j = k
            · subst e
              rw [hp] at hq
              injection hq with hq
              subst hq
              exact hP
            · exact h j q (by omega) hq
          obtain ⟨h1, h2⟩ := stb_yes hP
          clear hL2 hP hall hp
          generalize p.a = x at *
          generalize p.b = y at *
          go_wp2_with (go_at_call 9; refine (in_spec _ _ _ _).mono ?_; rintro e w1 ⟨rfl, rfl⟩; first | rw [h1] | rw [h2])
          go_roundw
          case rel => exact ⟨k + 1, by omega, by go_num, hnext, by (repeat (first | with_reducible exact Below.refl _ _ | with_reducible assumption | with_reducible refine balloc ?_ _ | with_reducible refine bdrew ?_ | with_reducible refine below_drewN ?_ _ | with_reducible refine bset ?_ ?_ _ | with_reducible exact Nat.le_refl _ | with_reducible refine bsize ?_ | (dsimp only; refine Nat.le_trans ?_ (Nat.le_add_right _ _)) | with_reducible refine Nat.le_trans ?_ (Nat.le_add_right _ _) | (with_reducible refine bstep ?_ (by assumption))))⟩
          case measure => simp [intOf]; omega
      · have hkl : k = l.length := by omega
        have hyes : Hid (l.all lstP = true) := by
          have h := hall.out
          refine Lib.hid (List.all_eq_true.2 fun p hp => ?_)
          obtain ⟨j, hj, hjp⟩ := List.mem_iff_getElem.1 hp
          exact h j p (by omega) (by rw [List.getElem?_eq_getElem hj, hjp])
        clear hall
        go_wp2
        go_ret
        exact ⟨by rw [hyes.out]; rfl, hbel⟩
  · go_enter Try.func10, Try.ntmps10
    go_wp2
    go_ret
    exact ⟨by simp; intro h; omega, Below.refl _ _⟩
theorem weSta_nil (w : World) : Calls Try.prog 10 #[.slice none 0 0] w fun e w' => e = .returned (.bool true) ∧ Below w.heap.size w w' := by
  go_enter Try.func10, Try.ntmps10
  go_wp2
  go_loopw [10] (fun i wr => i = .int .i64 0 ∧ wr = w) (fun _ _ => 0)
  case atStart => exact ⟨rfl, rfl⟩
  case round =>
    obtain ⟨rfl, rfl⟩ := hrel
    go_wp2
    go_ret
    exact ⟨rfl, Below.refl _ _⟩
theorem weSta_row (v : Value) (l : List StaV) (w : World) (h : RowG 2 fSta w v l) :
    Calls Try.prog 10 #[v] w fun e w' => e = .returned (.bool (lstB 20 l)) ∧ Below w.heap.size w w' := by
  rcases h with ⟨rfl, rfl⟩ | ⟨a, cap, rfl, hL⟩
  · exact weSta_nil w
  · exact weSta_some a cap l w hL
def rgB (l : List StaV) : Bool := decide (0 < l.length) && lstB 20 l
end Go.Proofs.Ytoienhjbhpdehaa
