/- Lists of amounts: at most 20, all of them valid (the program). -/
import Derived.Test.YtiafmojmanhdoaaAddUp
import Derived.Test.YtiafmojmanhdoaaRoadP
namespace Go.Proofs.Ytiafmojmanhdoaa
open Go.ChangeShapes Go.WideShapes Go.ChangeAt Go.RowKit Go.Joins
set_option maxRecDepth 100000
set_option linter.unusedVariables false
set_option linter.unusedSimpArgs false

def lsrP (p : (Int × Int)) : Bool := rpB p.1 p.2
def lsrB (M : Int) (l : List (Int × Int)) : Bool := decide ((l.length : Int) ≤ M) && l.all lsrP
theorem lsr_clo (x y : Int) (b0 : -9223372036854775808 ≤ x ∧ x ≤ 9223372036854775807) (b1 : -9223372036854775808 ≤ y ∧ y ≤ 9223372036854775807) (g : Nat) (w : World) (hc : w.cell? ⟨g, 0, none⟩ = some (.func (.func 123) #[] #[])) :
    Calls Try.prog 134 #[.agg #[.int .i64 x, .int .i64 y], .pointer (some ⟨g, 0, none⟩)] w fun e w' => e = .returned (.bool (!rpB x y)) ∧ Below w.heap.size w w' := by
  have hg : g < w.heap.size := cell_lt hc
  have HP := Lib.hid (fun W => rp_impl x y b0 b1 W)
  generalize rpB x y = B at *
  go_enter Try.func134, Try.ntmps134
  go_wp2_with fail
  refine (HP.out _).mono ?_
  rintro e w1 ⟨rfl, hb1⟩
  go_wp2
  go_ret
  refine ⟨rfl, ?_⟩
  (repeat (first | with_reducible exact Below.refl _ _ | with_reducible assumption | with_reducible refine balloc ?_ _ | with_reducible refine bdrew ?_ | with_reducible refine below_drewN ?_ _ | with_reducible refine bset ?_ ?_ _ | with_reducible exact Nat.le_refl _ | with_reducible refine bsize ?_ | (dsimp only; refine Nat.le_trans ?_ (Nat.le_add_right _ _)) | with_reducible refine Nat.le_trans ?_ (Nat.le_add_right _ _) | (with_reducible refine bstep ?_ (by assumption))))
set_option maxHeartbeats 800000 in
theorem lsr_ix (a : Addr) (cap : Nat) (l : List (Int × Int)) (g : Nat) (w : World) (hL : LiesG 2 fAmt w a cap l) (hcl : w.cell? ⟨g, 0, none⟩ = some (.func (.func 123) #[] #[])) :
    Calls Try.prog 139 #[.slice (some a) l.length cap, .func (.func 134) #[] #[.pointer (some ⟨g, 0, none⟩)]] w fun e w' => ∃ i : Int, e = .returned (.int .i64 i) ∧ Hid (decide (0 ≤ i) = !l.all lsrP) ∧ Below w.heap.size w w' := by
  have hlc := hL.hlc
  have hcap := hL.hcap
  have hg : g < w.heap.size := cell_lt hcl
  go_enter Try.func139, Try.ntmps139
  go_wp2
  go_loopw [8] (fun i wr => ∃ k : Nat, k ≤ l.length ∧ i = .int .i64 k ∧ Hid (∀ j p, j < k → l[j]? = some p → lsrP p = true) ∧ Below w.heap.size w wr) (fun i _ => l.length - (intOf i).toNat)
  case atStart => exact ⟨0, Nat.zero_le _, rfl, Lib.hid (fun j p h _ => absurd h (by omega)), Below.refl _ _⟩
  case round =>
    obtain ⟨k, hk, rfl, hall, hbel⟩ := hrel
    by_cases hlt : k < l.length
    · obtain ⟨p, hp⟩ : ∃ p, l[k]? = some p := ⟨_, List.getElem?_eq_getElem hlt⟩
      have hL2 := liesG_below hL hbel
      have hc := hL2.hcell k p hp
      have e0 := hc 0 p.1 rfl
      rw [Nat.add_zero] at e0
      have e1 : wr.cell? ⟨(a.add (k * 2)).block, (a.add (k * 2)).off + 1, none⟩ = some (.int .i64 p.2) := by
        have h := hc 1 p.2 rfl
        rw [← Deep.add_add] at h
        exact h
      clear hc
      have hbd := hL.hbd p (List.mem_of_getElem? hp)
      have b0 : -9223372036854775808 ≤ p.1 ∧ p.1 ≤ 9223372036854775807 := hbd p.1 (by simp [fAmt])
      have b1 : -9223372036854775808 ≤ p.2 ∧ p.2 ≤ 9223372036854775807 := hbd p.2 (by simp [fAmt])
      clear hbd
      have hcw := keepa hbel hg hcl
      have HC := Lib.hid (fun W h => lsr_clo p.1 p.2 b0 b1 g W h)
      cases hP : rpB p.1 p.2
      · have hno : Hid (l.all lsrP = false) := by
          rw [Bool.eq_false_iff]
          intro h
          have := (List.all_eq_true.1 h) p (List.mem_of_getElem? hp)
          unfold lsrP at this
          rw [hP] at this
          cases this
        rw [hP] at HC
        have HP2 := Lib.hid hP
        clear hL2 hP hall
        go_wp2_with fail
        refine (HC.out _ (by simpa [go_sem] using hcw)).mono ?_
        rintro e w2 ⟨rfl, hb2⟩
        go_wp2
        go_ret
        refine ⟨_, rfl, ?_, ?_⟩
        · have hno := hno.out
          exact Lib.hid (by rw [hno]; simp)
        · (repeat (first | with_reducible exact Below.refl _ _ | with_reducible assumption | with_reducible refine balloc ?_ _ | with_reducible refine bdrew ?_ | with_reducible refine below_drewN ?_ _ | with_reducible refine bset ?_ ?_ _ | with_reducible exact Nat.le_refl _ | with_reducible refine bsize ?_ | (dsimp only; refine Nat.le_trans ?_ (Nat.le_add_right _ _)) | with_reducible refine Nat.le_trans ?_ (Nat.le_add_right _ _) | (with_reducible refine bstep ?_ (by assumption))))
      · have hnext : Hid (∀ j p, j < k + 1 → l[j]? = some p → lsrP p = true) := by
          have h := hall.out
          refine Lib.hid (fun j q hj hq => ?_)
          by_cases e : j = k
          · subst e
            rw [hp] at hq
            injection hq with hq
            subst hq
            exact hP
          · exact h j q (by omega) hq
        rw [hP] at HC
        clear hL2 hP hall
        go_wp2_with fail
        refine (HC.out _ (by simpa [go_sem] using hcw)).mono ?_
        rintro e w2 ⟨rfl, hb2⟩
        go_wp2
        go_roundw
        case rel => exact ⟨k + 1, by omega, by go_num, hnext, by (repeat (first | with_reducible exact Below.refl _ _ | with_reducible assumption | with_reducible refine balloc ?_ _ | with_reducible refine bdrew ?_ | with_reducible refine below_drewN ?_ _ | with_reducible refine bset ?_ ?_ _ | with_reducible exact Nat.le_refl _ | with_reducible refine bsize ?_ | (dsimp only; refine Nat.le_trans ?_ (Nat.le_add_right _ _)) | with_reducible refine Nat.le_trans ?_ (Nat.le_add_right _ _) | (with_reducible refine bstep ?_ (by assumption))))⟩
        case measure => simp [intOf]; omega
    · have hkl : k = l.length := by omega
      have hyes : Hid (l.all lsrP = true) := by
        have h := hall.out
        refine Lib.hid (List.all_eq_true.2 fun p hp => ?_)
        obtain ⟨j, hj, hjp⟩ := List.mem_iff_getElem.1 hp
        exact h j p (by omega) (by rw [List.getElem?_eq_getElem hj, hjp])
      clear hall
      go_wp2
      go_ret
      refine ⟨_, rfl, ?_, hbel⟩
      have hyes := hyes.out
      exact Lib.hid (by rw [hyes]; simp)
theorem lsr_ix_nil (g : Nat) (w : World) :
    Calls Try.prog 139 #[.slice none 0 0, .func (.func 134) #[] #[.pointer (some ⟨g, 0, none⟩)]] w fun e w' => ∃ i : Int, e = .returned (.int .i64 i) ∧ Hid (decide (0 ≤ i) = !([] : List (Int × Int)).all lsrP) ∧ Below w.heap.size w w' := by
  go_enter Try.func139, Try.ntmps139
  go_wp2
  go_loopw [8] (fun i wr => i = .int .i64 0 ∧ wr = w) (fun _ _ => 0)
  case atStart => exact ⟨rfl, rfl⟩
  case round =>
    obtain ⟨rfl, rfl⟩ := hrel
    go_wp2
    go_ret
    exact ⟨_, rfl, Lib.hid (by simp), Below.refl _ _⟩
theorem lsr_has (v : Value) (l : List (Int × Int)) (g : Nat) (w : World) (h : RowG 2 fAmt w v l) (hcl : w.cell? ⟨g, 0, none⟩ = some (.func (.func 123) #[] #[])) :
    Calls Try.prog 133 #[v, .func (.func 134) #[] #[.pointer (some ⟨g, 0, none⟩)]] w fun e w' => e = .returned (.bool (!l.all lsrP)) ∧ Below w.heap.size w w' := by
  have HI : Hid (∀ W, Below w.heap.size w W → Calls Try.prog 139 #[v, .func (.func 134) #[] #[.pointer (some ⟨g, 0, none⟩)]] W fun e w' => ∃ i : Int, e = .returned (.int .i64 i) ∧ Hid (decide (0 ≤ i) = !l.all lsrP) ∧ Below W.heap.size W w') := by
    refine Lib.hid (fun W hb => ?_)
    rcases h with ⟨rfl, rfl⟩ | ⟨a, cap, rfl, hL⟩
    · exact lsr_ix_nil g W
    · exact lsr_ix a cap l g W (liesG_below hL hb) (keepa hb (cell_lt hcl) hcl)
  have hsh : ∃ a n c, v = .slice a n c := by
    rcases h with ⟨rfl, _⟩ | ⟨a, cap, rfl, _⟩ <;> exact ⟨_, _, _, rfl⟩
  obtain ⟨a, n, c, rfl⟩ := hsh
  clear h
  generalize l.all lsrP = B at *
  go_enter Try.func133, Try.ntmps133
  go_wp2_with fail
  refine (HI.out _ (by (repeat (first | with_reducible exact Below.refl _ _ | with_reducible assumption | with_reducible refine balloc ?_ _ | with_reducible refine bdrew ?_ | with_reducible refine below_drewN ?_ _ | with_reducible refine bset ?_ ?_ _ | with_reducible exact Nat.le_refl _ | with_reducible refine bsize ?_ | (dsimp only; refine Nat.le_trans ?_ (Nat.le_add_right _ _)) | with_reducible refine Nat.le_trans ?_ (Nat.le_add_right _ _) | (with_reducible refine bstep ?_ (by assumption)))))).mono ?_
  rintro e w1 ⟨i, rfl, hi, hb1⟩
  by_cases h0 : 0 ≤ i
  all_goals
    have hB := hi.out
    simp only [h0, decide_true, decide_false] at hB
    replace hB := Lib.hid hB
    clear hi
    go_wp2
    go_ret
    refine ⟨by rw [← hB.out]; first | rfl | simp [h0], ?_⟩
    (repeat (first | with_reducible exact Below.refl _ _ | with_reducible assumption | with_reducible refine balloc ?_ _ | with_reducible refine bdrew ?_ | with_reducible refine below_drewN ?_ _ | with_reducible refine bset ?_ ?_ _ | with_reducible exact Nat.le_refl _ | with_reducible refine bsize ?_ | (dsimp only; refine Nat.le_trans ?_ (Nat.le_add_right _ _)) | with_reducible refine Nat.le_trans ?_ (Nat.le_add_right _ _) | (with_reducible refine bstep ?_ (by assumption))))
theorem lsr_is (M : Int) (v : Value) (l : List (Int × Int)) (w : World) (h : RowG 2 fAmt w v l) :
    Calls Try.prog 124 #[v, .int .i64 M, .func (.func 123) #[] #[]] w fun e w' => e = .returned (.bool (lsrB M l)) ∧ Below w.heap.size w w' := by
  have HC := Lib.hid (fun W g (hb : Below w.heap.size w W) hc => lsr_has v l g W (by
    rcases h with ⟨rfl, rfl⟩ | ⟨a, cap, rfl, hL⟩
    · exact Or.inl ⟨rfl, rfl⟩
    · exact Or.inr ⟨a, cap, rfl, liesG_below hL hb⟩) hc)
  have hsh : ∃ a c, v = .slice a l.length c ∧ l.length ≤ 9223372036854775807 := by
    rcases h with ⟨rfl, rfl⟩ | ⟨a, cap, rfl, hL⟩
    · exact ⟨none, 0, rfl, by simp⟩
    · exact ⟨some a, cap, rfl, by have := hL.hlc; have := hL.hcap; omega⟩
  obtain ⟨a, c, rfl, hn⟩ := hsh
  clear h
  unfold lsrB
  generalize l.all lsrP = B at *
  generalize l.length = n at *
  by_cases h20 : (n : Int) ≤ M
  · go_enter Try.func124, Try.ntmps124
    go_wp2_with fail
    refine (HC.out _ w.heap.size (by (repeat (first | with_reducible exact Below.refl _ _ | with_reducible assumption | with_reducible refine balloc ?_ _ | with_reducible refine bdrew ?_ | with_reducible refine below_drewN ?_ _ | with_reducible refine bset ?_ ?_ _ | with_reducible exact Nat.le_refl _ | with_reducible refine bsize ?_ | (dsimp only; refine Nat.le_trans ?_ (Nat.le_add_right _ _)) | with_reducible refine Nat.le_trans ?_ (Nat.le_add_right _ _) | (with_reducible refine bstep ?_ (by assumption))))) (by simp)).mono ?_
    rintro e w1 ⟨rfl, hb1⟩
    go_wp2
    go_ret
    refine ⟨by simp [h20], ?_⟩
    (repeat (first | with_reducible exact Below.refl _ _ | with_reducible assumption | with_reducible refine balloc ?_ _ | with_reducible refine bdrew ?_ | with_reducible refine below_drewN ?_ _ | with_reducible refine bset ?_ ?_ _ | with_reducible exact Nat.le_refl _ | with_reducible refine bsize ?_ | (dsimp only; refine Nat.le_trans ?_ (Nat.le_add_right _ _)) | with_reducible refine Nat.le_trans ?_ (Nat.le_add_right _ _) | (with_reducible refine bstep ?_ (by assumption))))
  · go_enter Try.func124, Try.ntmps124
    go_wp2
    go_ret
    refine ⟨by simp; intro h; omega, ?_⟩
    (repeat (first | with_reducible exact Below.refl _ _ | with_reducible assumption | with_reducible refine balloc ?_ _ | with_reducible refine bdrew ?_ | with_reducible refine below_drewN ?_ _ | with_reducible refine bset ?_ ?_ _ | with_reducible exact Nat.le_refl _ | with_reducible refine bsize ?_ | (dsimp only; refine Nat.le_trans ?_ (Nat.le_add_right _ _)) | with_reducible refine Nat.le_trans ?_ (Nat.le_add_right _ _) | (with_reducible refine bstep ?_ (by assumption))))
end Go.Proofs.Ytiafmojmanhdoaa
