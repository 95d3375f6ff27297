/- The laws' helpers on lists of clues: the copy is a row of its own; two rows of one list are equal. -/
import Derived.Test.YtiafmojmanhdoaaClueT
import Derived.Deep.RegionHeld3
namespace Go.Proofs.Ytiafmojmanhdoaa
open Go.ChangeShapes Go.WideShapes Go.ChangeAt Go.RowKit Go.Joins
set_option maxRecDepth 100000
set_option linter.unusedVariables false
set_option linter.unusedSimpArgs false

theorem infoClue : (Try.prog.info? 27).map (fun i => (i.zero, i.size, i.bytes)) = some (some (.agg #[.int .i64 0, .int .i64 0, .int .i64 0]), 3, 24) := by kernel_rfl

set_option maxHeartbeats 1600000 in
theorem to_clues_some (a : Addr) (cap : Nat) (l : List ClueV) (w : World) (hL : LiesG 3 fClue w a cap l) (hn : l.length ≤ 1048576) :
    Calls Try.prog 59 #[.slice (some a) l.length cap] w (EndCopyG 27 3 fClue l w) := by
  obtain ⟨i0, hi, hz0, hz1, hz2⟩ := info_parts infoClue
  go_enter Try.func59, Try.ntmps59
  go_wp2_with (at_make; refine wpList_make_full _ rfl _ _ 39 rfl w.heap.size 27 i0 (.agg #[.int .i64 0, .int .i64 0, .int .i64 0]) 3 Try.underlying39 hi hz0 hz1 .i64 .i64 _ _ l.length rfl rfl rfl rfl (by rw [hz2]; omega) (by unfold maxLen; omega) (Nat.le_refl _) ?_)
  intro w1 hown1 hgr1
  have hB1 : Below w.heap.size w w1 := (Below.refl _ _).grown hgr1 (Nat.le_refl _) (fun k e => by cases e)
  go_wp2
  go_loopw [4] (fun i wr => ∃ (k : Nat) (xs : List Value), k ≤ l.length ∧ i = .int .i64 k ∧ wr.ownsRow w.heap.size 27 3 (.slice (some ⟨w.heap.size, 0, none⟩) l.length l.length) l.length xs ∧
      (∀ (i : Nat) (x : ClueV), i < k → l[i]? = some x → ∀ (j : Nat) (y : Int), (fClue x)[j]? = some y → xs[i * 3 + j]? = some (.int .i64 y)) ∧ Below w.heap.size w wr) (fun i _ => l.length - (intOf i).toNat)
  case atStart => exact ⟨0, _, Nat.zero_le _, rfl, hown1, fun j p h => absurd h (by omega), hB1⟩
  case round =>
    clear hown1 hgr1 hB1
    obtain ⟨k, xs, hk, rfl, hown, hall, hbel⟩ := hrel
    by_cases hlt : k < l.length
    · obtain ⟨p, hp⟩ : ∃ p, l[k]? = some p := ⟨_, List.getElem?_eq_getElem hlt⟩
      have hc := (liesG_below hL hbel).hcell k p hp
      have e0 := hc 0 p.k rfl
      rw [Nat.add_zero] at e0
      have e1 := hc 1 p.a rfl
      have g1 : wr.cell? ⟨(a.add (k * 3)).block, (a.add (k * 3)).off + 1, none⟩ = some (.int .i64 p.a) := by
        have h := e1
        rw [← Deep.add_add] at h
        exact h
      have e2 := hc 2 p.b rfl
      have g2 : wr.cell? ⟨(a.add (k * 3)).block, (a.add (k * 3)).off + 2, none⟩ = some (.int .i64 p.b) := by
        have h := e2
        rw [← Deep.add_add] at h
        exact h
      clear hc
      go_wp2_with fail
      refine (toClue _ _ _ _).mono ?_
      rintro e w2 ⟨rfl, hb2⟩
      have hown2 := ownsRow_below hown hb2
      have hbel2 := bstep hbel hb2
      have hlen := hown2.1
      have f0 := hown2.frozenAt (k * 3)
      obtain ⟨u0, hu0⟩ : ∃ u, w2.cell? ⟨w.heap.size, k * 3, none⟩ = some u := by
        rw [hown2.cellAt (k * 3) (by omega)]; exact ⟨_, List.getElem?_eq_getElem (by omega)⟩
      have f1 := hown2.frozenAt (k * 3 + 1)
      obtain ⟨u1, hu1⟩ : ∃ u, w2.cell? ⟨w.heap.size, k * 3 + 1, none⟩ = some u := by
        rw [hown2.cellAt (k * 3 + 1) (by omega)]; exact ⟨_, List.getElem?_eq_getElem (by omega)⟩
      have f2 := hown2.frozenAt (k * 3 + 2)
      obtain ⟨u2, hu2⟩ : ∃ u, w2.cell? ⟨w.heap.size, k * 3 + 2, none⟩ = some u := by
        rw [hown2.cellAt (k * 3 + 2) (by omega)]; exact ⟨_, List.getElem?_eq_getElem (by omega)⟩
      obtain ⟨st0, gr0⟩ := hown2.stored (k * 3) (.int .i64 p.k)
      obtain ⟨st1, gr1⟩ := st0.stored (k * 3 + 1) (.int .i64 p.a)
      obtain ⟨st2, gr2⟩ := st1.stored (k * 3 + 2) (.int .i64 p.b)
      clear hown hbel e0 e1 e2 g1 g2
      go_wp2
      go_roundw
      case rel =>
        refine ⟨k + 1, (((xs.set (k * 3) (.int .i64 p.k)).set (k * 3 + 1) (.int .i64 p.a)).set (k * 3 + 2) (.int .i64 p.b)), by omega, by go_num, st2, ?_, ?_⟩
        · intro i x hi hx j y hy
          have hj : j < 3 := (List.getElem?_eq_some_iff.1 hy).1
          by_cases hik : i = k
          · subst hik
            rw [hp] at hx
            injection hx with hx
            subst hx
            match j, hj with
            | 0, _ => simp [fClue] at hy; subst hy; change (_ : List Value)[i * 3]? = _; (repeat (first | rw [List.getElem?_set_self (by first | omega | (simp; omega))] | rw [List.getElem?_set_ne (by omega)]))
            | 1, _ => simp [fClue] at hy; subst hy; (repeat (first | rw [List.getElem?_set_self (by first | omega | (simp; omega))] | rw [List.getElem?_set_ne (by omega)]))
            | 2, _ => simp [fClue] at hy; subst hy; (repeat (first | rw [List.getElem?_set_self (by first | omega | (simp; omega))] | rw [List.getElem?_set_ne (by omega)]))
          · rw [List.getElem?_set_ne (by omega), List.getElem?_set_ne (by omega), List.getElem?_set_ne (by omega)]
            exact hall i x (by omega) hx j y hy
        · (repeat (first | with_reducible exact Below.refl _ _ | with_reducible assumption | with_reducible refine balloc ?_ _ | with_reducible refine bdrew ?_ | with_reducible refine below_drewN ?_ _ | with_reducible refine bset ?_ ?_ _ | with_reducible exact Nat.le_refl _ | with_reducible refine bsize ?_ | (dsimp only; refine Nat.le_trans ?_ (Nat.le_add_right _ _)) | with_reducible refine Nat.le_trans ?_ (Nat.le_add_right _ _) | (with_reducible refine bstep ?_ (by assumption))))
      case measure => simp [intOf]; omega
    · have hkn : k = l.length := by omega
      subst hkn
      have hxs : xs = cellsG fClue l := cellsG_ext fClue_len (by omega) l xs hown.1 (fun i x hx j y hy => hall i x ((List.getElem?_eq_some_iff.1 hx).1) hx j y hy)
      rw [hxs] at hown
      clear hxs hall
      go_wp2
      go_ret
      exact ⟨_, rfl, hown, hbel⟩

set_option maxHeartbeats 800000 in
theorem to_clues_nil (w : World) : Calls Try.prog 59 #[.slice none 0 0] w (EndCopyG 27 3 fClue [] w) := by
  obtain ⟨i0, hi, hz0, hz1, hz2⟩ := info_parts infoClue
  go_enter Try.func59, Try.ntmps59
  go_wp2_with (at_make; refine wpList_make_full _ rfl _ _ 39 rfl w.heap.size 27 i0 (.agg #[.int .i64 0, .int .i64 0, .int .i64 0]) 3 Try.underlying39 hi hz0 hz1 .i64 .i64 _ _ 0 rfl rfl rfl rfl (by rw [hz2]; omega) (by unfold maxLen; omega) (Nat.le_refl _) ?_)
  intro w1 hown1 hgr1
  have hB1 : Below w.heap.size w w1 := (Below.refl _ _).grown hgr1 (Nat.le_refl _) (fun k e => by cases e)
  go_wp2
  go_loopw [4] (fun i wr => i = .int .i64 0 ∧ wr = w1) (fun _ _ => 0)
  case atStart => exact ⟨rfl, rfl⟩
  case round =>
    obtain ⟨rfl, rfl⟩ := hrel
    go_wp2
    go_ret
    refine ⟨_, rfl, ?_, hB1⟩
    have e := List.length_eq_zero_iff.1 (hown1.1.trans (Nat.zero_mul 3))
    rw [e] at hown1
    exact hown1
/-- The copy of whatever list. -/
theorem to_clues (v : Value) (w W : World) (h : AnyG 3 fClue w v) (hb : Below w.heap.size w W) (hn : lenV v ≤ 1048576) :
    ∃ l : List ClueV, lenV v = l.length ∧ (∀ p ∈ l, ∀ y ∈ fClue p, -9223372036854775808 ≤ y ∧ y ≤ 9223372036854775807) ∧ Calls Try.prog 59 #[v] W (EndCopyG 27 3 fClue l W) := by
  rcases h with rfl | ⟨a, cap, l, rfl, hL⟩
  · exact ⟨[], rfl, by simp, to_clues_nil W⟩
  · exact ⟨l, rfl, hL.hbd, to_clues_some a cap l W (liesG_below hL hb) hn⟩

theorem sz_clues (a : Option Addr) (n cap : Nat) (w : World) (hn : n ≤ 9223372036854775807) :
    Calls Try.prog 56 #[.slice a n cap, .int .i64 1048576] w fun e w' => e = .returned (.int .i64 (if n ≤ 1048576 then 1048576 - (n : Int) else -1)) ∧ Below w.heap.size w w' := by
  by_cases h : n ≤ 1048576
  · rw [if_pos h]
    go_enter Try.func56, Try.ntmps56
    go_wp2
    go_ret
    refine ⟨rfl, ?_⟩
    (repeat (first | with_reducible exact Below.refl _ _ | with_reducible assumption | with_reducible refine balloc ?_ _ | with_reducible refine bdrew ?_ | with_reducible refine below_drewN ?_ _ | with_reducible refine bset ?_ ?_ _ | with_reducible exact Nat.le_refl _ | with_reducible refine bsize ?_ | (dsimp only; refine Nat.le_trans ?_ (Nat.le_add_right _ _)) | with_reducible refine Nat.le_trans ?_ (Nat.le_add_right _ _) | (with_reducible refine bstep ?_ (by assumption))))
  · rw [if_neg h]
    go_enter Try.func56, Try.ntmps56
    go_wp2
    go_ret
    refine ⟨rfl, ?_⟩
    (repeat (first | with_reducible exact Below.refl _ _ | with_reducible assumption | with_reducible refine balloc ?_ _ | with_reducible refine bdrew ?_ | with_reducible refine below_drewN ?_ _ | with_reducible refine bset ?_ ?_ _ | with_reducible exact Nat.le_refl _ | with_reducible refine bsize ?_ | (dsimp only; refine Nat.le_trans ?_ (Nat.le_add_right _ _)) | with_reducible refine Nat.le_trans ?_ (Nat.le_add_right _ _) | (with_reducible refine bstep ?_ (by assumption))))
end Go.Proofs.Ytiafmojmanhdoaa
