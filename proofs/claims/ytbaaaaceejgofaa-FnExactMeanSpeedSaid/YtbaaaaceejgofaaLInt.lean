/- The laws' helpers on lists of whole numbers: the copy is a row of its own. -/
import Derived.Test.YtbaaaaceejgofaaCavA
import Derived.Test.YtbaaaaceejgofaaRInt
import Derived.Test.YtbaaaaceejgofaaLawBase
namespace Go.Proofs.Ytbaaaaceejgofaa
open Go.ChangeShapes Go.WideShapes Go.ChangeAt Go.RowKit Go.Joins
set_option maxRecDepth 100000
set_option linter.unusedVariables false
set_option linter.unusedSimpArgs false

theorem trod_int1 {H : Type} {enc : TypeId × Value → H} {W : World} {base fuel : Nat} {spare : Nat → Bool} {held : Bool} {cs : List Value} {x : DataW H × List MemPlace} (h : DataW.trod enc Try.prog W base spare held fuel 3 cs = some x) :
    ∃ p : Int, cs = (fInt p).map (Value.int .i64) ∧ ∀ y ∈ fInt p, -9223372036854775808 ≤ y ∧ y ≤ 9223372036854775807 := by
  obtain ⟨p, rfl, hp⟩ := trod_cell h
  exact ⟨p, rfl, by simpa [fInt] using hp⟩
set_option maxHeartbeats 1600000 in
theorem to_ints_some (a : Addr) (cap : Nat) (l : List Int) (w : World) (hL : LiesG 1 fInt w a cap l) (hn : l.length ≤ 1048576) :
    Calls Try.prog 9 #[.slice (some a) l.length cap] w (EndCopyG 3 1 fInt l w) := by
  have hlc := hL.hlc
  have hcap := hL.hcap
  obtain ⟨i0, hi, hz0, hz1, hz2⟩ := info_parts infoInt
  go_enter Try.func9, Try.ntmps9
  go_wp2_with (at_make; refine wpList_make_full _ rfl _ _ 28 rfl w.heap.size 3 i0 (.int .i64 0) 1 Try.underlying28 hi hz0 hz1 .i64 .i64 _ _ l.length rfl rfl rfl rfl (by rw [hz2]; omega) (by unfold maxLen; omega) (Nat.le_refl _) ?_)
  intro w1 hown1 hgr1
  have hB1 : Below w.heap.size w w1 := (Below.refl _ _).grown hgr1 (Nat.le_refl _) (fun k e => by cases e)
  go_wp2
  go_loopw [4] (fun i wr => ∃ (k : Nat) (xs : List Value), k ≤ l.length ∧ i = .int .i64 k ∧ wr.ownsRow w.heap.size 3 1 (.slice (some ⟨w.heap.size, 0, none⟩) l.length l.length) l.length xs ∧
      (∀ (i : Nat) (x : Int), i < k → l[i]? = some x → xs[i]? = some (.int .i64 x)) ∧ Below w.heap.size w wr) (fun i _ => l.length - (intOf i).toNat)
  case atStart => exact ⟨0, _, Nat.zero_le _, rfl, hown1, fun j p h => absurd h (by omega), hB1⟩
  case round =>
    clear hown1 hgr1 hB1
    obtain ⟨k, xs, hk, rfl, hown, hall, hbel⟩ := hrel
    by_cases hlt : k < l.length
    · obtain ⟨p, hp⟩ : ∃ p, l[k]? = some p := ⟨_, List.getElem?_eq_getElem hlt⟩
      have e0 := cellI (liesG_below hL hbel) hp
      have hlen := hown.1
      have f0 := hown.frozenAt k
      obtain ⟨u0, hu0⟩ : ∃ u, wr.cell? ⟨w.heap.size, k, none⟩ = some u := by
        rw [hown.cellAt k (by omega)]; exact ⟨_, List.getElem?_eq_getElem (by omega)⟩
      obtain ⟨st0, gr0⟩ := hown.stored k (.int .i64 p)
      clear hown
      go_wp2
      first | go_region | skip
      all_goals
        (try go_wp2)
        go_roundw
        case rel =>
          refine ⟨k + 1, xs.set k (.int .i64 p), by omega, by go_num, st0, ?_, ?_⟩
          · intro i x hi hx
            by_cases hik : i = k
            · subst hik
              rw [hp] at hx
              injection hx with hx
              subst hx
              rw [List.getElem?_set_self (by first | omega | (simp; omega))]
            · rw [List.getElem?_set_ne (by omega)]
              exact hall i x (by omega) hx
          · (repeat (first | with_reducible exact Below.refl _ _ | with_reducible assumption | with_reducible refine balloc ?_ _ | with_reducible refine bdrew ?_ | with_reducible refine below_drewN ?_ _ | with_reducible refine bset ?_ ?_ _ | with_reducible exact Nat.le_refl _ | with_reducible refine bsize ?_ | (dsimp only; refine Nat.le_trans ?_ (Nat.le_add_right _ _)) | with_reducible refine Nat.le_trans ?_ (Nat.le_add_right _ _) | (with_reducible refine bstep ?_ (by assumption))))
        case measure => simp [intOf]; omega
    · have hkn : k = l.length := by omega
      subst hkn
      have hxs : xs = cellsG fInt l := cellsG_ext fInt_len (by omega) l xs hown.1 (fun i x hx j y hy => by
        have hj : j = 0 := by
          have := (List.getElem?_eq_some_iff.1 hy).1
          simp [fInt] at this; omega
        subst hj
        simp [fInt] at hy
        subst hy
        rw [Nat.mul_one, Nat.add_zero]
        exact hall i _ ((List.getElem?_eq_some_iff.1 hx).1) hx)
      rw [hxs] at hown
      clear hxs hall
      go_wp2
      go_ret
      exact ⟨_, rfl, hown, hbel⟩
set_option maxHeartbeats 800000 in
theorem to_ints_nil (w : World) : Calls Try.prog 9 #[.slice none 0 0] w (EndCopyG 3 1 fInt [] w) := by
  obtain ⟨i0, hi, hz0, hz1, hz2⟩ := info_parts infoInt
  go_enter Try.func9, Try.ntmps9
  go_wp2_with (at_make; refine wpList_make_full _ rfl _ _ 28 rfl w.heap.size 3 i0 (.int .i64 0) 1 Try.underlying28 hi hz0 hz1 .i64 .i64 _ _ 0 rfl rfl rfl rfl (by rw [hz2]; omega) (by unfold maxLen; omega) (Nat.le_refl _) ?_)
  intro w1 hown1 hgr1
  have hB1 : Below w.heap.size w w1 := (Below.refl _ _).grown hgr1 (Nat.le_refl _) (fun k e => by cases e)
  go_wp2
  go_loopw [4] (fun i wr => i = .int .i64 0 ∧ wr = w1) (fun _ _ => 0)
  case atStart => exact ⟨rfl, rfl⟩
  case round =>
    obtain ⟨rfl, rfl⟩ := hrel
    go_wp2
    go_ret
    refine ⟨_, rfl, ?_, hB1⟩
    have e := List.length_eq_zero_iff.1 (hown1.1.trans (Nat.zero_mul 1))
    rw [e] at hown1
    exact hown1
end Go.Proofs.Ytbaaaaceejgofaa
