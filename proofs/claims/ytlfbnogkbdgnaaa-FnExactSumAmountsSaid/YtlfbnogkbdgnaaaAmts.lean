/- The laws' helper that copies a list of amounts: what it makes is a row of its own. -/
import Derived.Test.YtlfbnogkbdgnaaaUnits
import Derived.Test.YtlfbnogkbdgnaaaLawBase
import Derived.Test.YtlfbnogkbdgnaaaInts
import Derived.Test.YtlfbnogkbdgnaaaUpI
import Derived.OwnWalk
import Derived.OneCell
namespace Go.Proofs.Ytlfbnogkbdgnaaa
open Go.ChangeShapes Go.WideShapes Go.ChangeAt Go.RowKit Go.Joins
set_option linter.unusedVariables false
set_option linter.unusedSimpArgs false

/-- A given list of amounts: where it lies, and what it reads. -/
structure Lies (w : World) (a : Addr) (cap : Nat) (l : List (Int × Int)) : Prop where
  hlc : l.length ≤ cap
  hcap : cap ≤ 9223372036854775807
  hcell : ∀ (i : Nat) (p : Int × Int), l[i]? = some p → w.cell? (a.add (i * 2)) = some (.int .i64 p.1) ∧ w.cell? (a.add (i * 2 + 1)) = some (.int .i64 p.2)
  hbd : ∀ p ∈ l, (-9223372036854775808 ≤ p.1 ∧ p.1 ≤ 9223372036854775807) ∧ -9223372036854775808 ≤ p.2 ∧ p.2 ≤ 9223372036854775807
theorem add_block (a : Addr) (j : Nat) : (a.add j).block = a.block := by unfold Addr.add; split <;> rfl
theorem cell_lt {w : World} {a : Addr} {v : Value} (h : w.cell? a = some v) : a.block < w.heap.size :=
  Decidable.byContradiction fun hn => by
    unfold World.cell? at h
    rw [Array.getElem?_eq_none (by omega)] at h
    simp at h
theorem lies_below {w w' : World} {a : Addr} {cap : Nat} {l : List (Int × Int)} (h : Lies w a cap l) (hb : Below w.heap.size w w') : Lies w' a cap l :=
  ⟨h.hlc, h.hcap, fun i p hp => ⟨(hb.cell (cell_lt (h.hcell i p hp).1)).trans (h.hcell i p hp).1, (hb.cell (cell_lt (h.hcell i p hp).2)).trans (h.hcell i p hp).2⟩, h.hbd⟩

/-- The ending of the copy. -/
def EndCopy (l : List (Int × Int)) (w : World) (e : Ending) (w' : World) : Prop :=
  ∃ g, e = .returned (.slice (some ⟨g, 0, none⟩) l.length l.length) ∧ w'.ownsRow w.heap.size 25 2 (.slice (some ⟨g, 0, none⟩) l.length l.length) l.length (cellsOf2 l) ∧ Below w.heap.size w w'

set_option maxHeartbeats 1600000 in
theorem to_amts_some (a : Addr) (cap : Nat) (l : List (Int × Int)) (w : World) (hL : Lies w a cap l) (hn : l.length ≤ 1048576) :
    Calls Try.prog 38 #[.slice (some a) l.length cap] w (EndCopy l w) := by
  obtain ⟨i0, hi, hz0, hz1, hz2⟩ := info_parts infoAmt
  go_enter Try.func38, Try.ntmps38
  go_wp2_with (at_make; refine wpList_make_full _ rfl _ _ 40 rfl w.heap.size 25 i0 (.agg #[.int .i64 0, .int .i64 0]) 2 Try.underlying40 hi hz0 hz1 .i64 .i64 _ _ l.length rfl rfl rfl rfl (by rw [hz2]; omega) (by unfold maxLen; omega) (Nat.le_refl _) ?_)
  intro w1 hown1 hgr1
  have hB1 : Below w.heap.size w w1 := (Below.refl _ _).grown hgr1 (Nat.le_refl _) (fun k e => by cases e)
  go_wp2
  go_loopw [4] (fun i wr => ∃ (k : Nat) (xs : List Value), k ≤ l.length ∧ i = .int .i64 k ∧ wr.ownsRow w.heap.size 25 2 (.slice (some ⟨w.heap.size, 0, none⟩) l.length l.length) l.length xs ∧
      (∀ (j : Nat) (p : Int × Int), j < k → l[j]? = some p → xs[j * 2]? = some (.int .i64 p.1) ∧ xs[j * 2 + 1]? = some (.int .i64 p.2)) ∧ Below w.heap.size w wr) (fun i _ => l.length - (intOf i).toNat)
  case atStart => exact ⟨0, _, Nat.zero_le _, rfl, hown1, fun j p h => absurd h (by omega), hB1⟩
  case round =>
    clear hown1 hgr1 hB1
    obtain ⟨k, xs, hk, rfl, hown, hall, hbel⟩ := hrel
    by_cases hlt : k < l.length
    · obtain ⟨p, hp⟩ : ∃ p, l[k]? = some p := ⟨_, List.getElem?_eq_getElem hlt⟩
      obtain ⟨e1, e2⟩ := (lies_below hL hbel).hcell k p hp
      have e3 : wr.cell? ⟨(a.add (k * 2)).block, (a.add (k * 2)).off + 1, none⟩ = some (.int .i64 p.2) := by
        have h := e2
        rw [← Deep.add_add] at h
        exact h
      go_wp2_with fail
      refine (toAmt _ _ _).mono ?_
      rintro e w2 ⟨rfl, hb2⟩
      have hown2 := ownsRow_below hown hb2
      have hbel2 := bstep hbel hb2
      have hlen := hown2.1
      have f0 := hown2.frozenAt (k * 2)
      have f1 := hown2.frozenAt (k * 2 + 1)
      obtain ⟨u0, hu0⟩ : ∃ u, w2.cell? ⟨w.heap.size, k * 2, none⟩ = some u := by
        rw [hown2.cellAt (k * 2) (by omega)]; exact ⟨_, List.getElem?_eq_getElem (by omega)⟩
      obtain ⟨u1, hu1⟩ : ∃ u, w2.cell? ⟨w.heap.size, k * 2 + 1, none⟩ = some u := by
        rw [hown2.cellAt (k * 2 + 1) (by omega)]; exact ⟨_, List.getElem?_eq_getElem (by omega)⟩
      obtain ⟨st0, gr0⟩ := hown2.stored (k * 2) (.int .i64 p.1)
      obtain ⟨st1, gr1⟩ := st0.stored (k * 2 + 1) (.int .i64 p.2)
      clear hown hbel e1 e2 e3
      go_wp2
      go_roundw
      case rel =>
        refine ⟨k + 1, (xs.set (k * 2) (.int .i64 p.1)).set (k * 2 + 1) (.int .i64 p.2), by omega, by go_num, st1, ?_, ?_⟩
        · intro j q hj hq
          by_cases hjk : j = k
          · subst hjk
            rw [hp] at hq
            injection hq with hq
            subst hq
            refine ⟨?_, ?_⟩
            · rw [List.getElem?_set_ne (by omega), List.getElem?_set_self (by omega)]
            · rw [List.getElem?_set_self (by simp; omega)]
          · rw [List.getElem?_set_ne (by omega), List.getElem?_set_ne (by omega), List.getElem?_set_ne (by omega), List.getElem?_set_ne (by omega)]
            exact hall j q (by omega) hq
        · (repeat (first | exact Below.refl _ _ | assumption | refine balloc ?_ _ | refine bdrew ?_ | refine bset ?_ ?_ _ | exact Nat.le_refl _ | refine bsize ?_ | (dsimp only; refine Nat.le_trans ?_ (Nat.le_add_right _ _)) | refine Nat.le_trans ?_ (Nat.le_add_right _ _) | (refine bstep ?_ (by assumption))))
      case measure => simp [intOf]; omega
    · have hkn : k = l.length := by omega
      subst hkn
      have hxs : xs = cellsOf2 l := by
        have hlen := hown.1
        apply List.ext_getElem?
        intro j
        by_cases hj : j < l.length * 2
        · obtain ⟨q, hq⟩ : ∃ q, l[j / 2]? = some q := ⟨_, List.getElem?_eq_getElem (by omega)⟩
          have h1 := hall (j / 2) q (by omega) hq
          have h2 := cells_get l (j / 2) q hq
          rcases Nat.mod_two_eq_zero_or_one j with h | h
          · have e : j / 2 * 2 = j := by omega
            rw [e] at h1 h2
            rw [h1.1, h2.1]
          · have e : j / 2 * 2 + 1 = j := by omega
            rw [e] at h1 h2
            rw [h1.2, h2.2]
        · rw [List.getElem?_eq_none (by omega), List.getElem?_eq_none (by rw [cells_len]; omega)]
      rw [hxs] at hown
      clear hxs hall
      go_wp2
      go_ret
      exact ⟨_, rfl, hown, hbel⟩
end Go.Proofs.Ytlfbnogkbdgnaaa
