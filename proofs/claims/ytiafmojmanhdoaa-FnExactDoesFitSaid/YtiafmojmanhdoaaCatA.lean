/- Two lists of amounts put together by the library. -/
import Derived.Test.YtiafmojmanhdoaaCat
import Derived.Test.YtiafmojmanhdoaaLAmount
import Derived.Test.YtiafmojmanhdoaaRowS
import Derived.Laws.AppendOwnNone
import Derived.Lib.AppendZerosOnto
namespace Go.Proofs.Ytiafmojmanhdoaa
open Go.ChangeShapes Go.WideShapes Go.ChangeAt Go.RowKit Go.Joins
set_option maxRecDepth 100000
set_option linter.unusedVariables false
set_option linter.unusedSimpArgs false

set_option maxHeartbeats 1600000 in
theorem catA_grow (n : Nat) (hn : n ≤ 2097152) (w : World) :
    Calls Try.prog 135 #[.slice none 0 0, .int .i64 n] w (EndL 101 2 fAmt ([] : List (Int × Int)) w) := by
  obtain ⟨i0, hi, hz0, hz1, hz2⟩ := info_parts infoAmt
  by_cases h0 : n = 0
  · subst h0
    go_enter Try.func135, Try.ntmps135
    go_wp2
    go_ret
    exact ⟨_, rfl, World.ownsRow_nil _ _ _ _, Below.refl _ _⟩
  · have hcap0 : n ≤ grownCap w n 0 101 := grownCap_ge w _ _ _
    have hcapM : grownCap w n 0 101 ≤ maxLen := grownCap_le_maxLen w n 0 101 (by unfold maxLen; omega)
    have hrz : ∀ ty, (Builtin.append_ #[102, 3] ty #[.slice none 0 0, .int .i64 (n : Int)]).run Try.prog w =
        .ok (.slice (some ⟨w.heap.size, 0, none⟩) n (grownCap w n 0 101)) (w.drew.alloc (.cells (Builtin.zeroCells (.agg #[.int .i64 0, .int .i64 0] : Value).cells n ++ Builtin.zeroCells (.agg #[.int .i64 0, .int .i64 0] : Value).cells (grownCap w n 0 101 - n)) 101)) := fun ty => by
      have h := Lib.run_append_grow_zeros (P := Try.prog) w 102 3 ty 101 i0 _ .i64 .i64 Try.underlying102 Try.underlying3 hi hz0 none 0 0 [] (run_firstCells_none _ _ _ _ _) n (by omega) (by rw [hz1]; omega) (by omega) (by omega)
        (by rw [hz2]; omega) (by rw [hz2]; rw [show 0 + n = n by omega]; exact growslice_fits (by omega) (by omega))
      rw [show 0 + n = n by omega] at h
      simpa using h
    obtain ⟨G, hG⟩ : ∃ G, G = grownCap w n 0 101 := ⟨_, rfl⟩
    rw [← hG] at hrz hcap0 hcapM
    unfold maxLen at hcapM
    clear hG
    go_enter Try.func135, Try.ntmps135
    go_wp2_with (at_builtin; refine Lib.wpList_append_run _ rfl _ _ _ _ rfl _ _ rfl rfl _ _ (hrz _) ?_)
    all_goals
      go_ret
      refine ⟨_, rfl, ?_, by (repeat (first | with_reducible exact Below.refl _ _ | with_reducible assumption | with_reducible refine balloc ?_ _ | with_reducible refine bdrew ?_ | with_reducible refine below_drewN ?_ _ | with_reducible refine bset ?_ ?_ _ | with_reducible exact Nat.le_refl _ | with_reducible refine bsize ?_ | (dsimp only; refine Nat.le_trans ?_ (Nat.le_add_right _ _)) | with_reducible refine Nat.le_trans ?_ (Nat.le_add_right _ _) | (with_reducible refine bstep ?_ (by assumption))))⟩
      exact World.ownsRow_made w.drew _ G (by simp) (by unfold maxLen; omega) (by simp [size_zeroCells, Value.cells]; omega)
set_option maxHeartbeats 3200000 in
theorem catA_two (g : Nat) (v1 v2 : Value) (l1 l2 : List (Int × Int)) (w : World) (hc1 : w.cell? ⟨g, 0, none⟩ = some v1) (hc2 : w.cell? ⟨g, 1, none⟩ = some v2) (h1 : RowG 2 fAmt w v1 l1) (h2 : RowG 2 fAmt w v2 l2) (hn : l1.length + l2.length ≤ 1048576) :
    Calls Try.prog 128 #[.slice (some ⟨g, 0, none⟩) 2 2] w (EndL 101 2 fAmt (l1 ++ l2) w) := by
  obtain ⟨i0, hi, hz0, hz1, hz2⟩ := info_parts infoAmt
  have hg : g < w.heap.size := cell_lt hc1
  obtain ⟨a1, k1, hv1, d1, e1⟩ := row_shape h1
  obtain ⟨a2, k2, hv2, d2, e2⟩ := row_shape h2
  have HG := Lib.hid (fun W => catA_grow (l1.length + l2.length) (by omega) W)
  have hc1' := hc1
  have hc2' := hc2
  rw [hv1] at hc1'
  rw [hv2] at hc2'
  go_enter Try.func128, Try.ntmps128
  go_wp2
  go_loopw [3, 5, 11] (fun sz u i wr => ∃ j : Nat, j ≤ 2 ∧ i = .int .i64 j ∧ sz = .int .i64 (((if 0 < j then l1.length else 0) + (if 1 < j then l2.length else 0) : Nat) : Int) ∧ wr = w) (fun _ _ i _ => 2 - (intOf i).toNat)
  case atStart => exact ⟨0, by omega, rfl, by simp, rfl⟩
  case round =>
    obtain ⟨j, hj, rfl, rfl, hw⟩ := hrel
    replace hw := hw.symm
    subst hw
    rcases (show j = 0 ∨ j = 1 ∨ j = 2 by omega) with rfl | rfl | rfl
    · go_wp2
      go_roundw
      case rel => refine ⟨1, by omega, by go_num, by simp, ?_⟩; first | rfl | trivial
      case measure => simp [intOf]
    · go_wp2
      go_roundw
      case rel => refine ⟨2, by omega, by go_num, by simp, ?_⟩; first | rfl | trivial
      case measure => simp [intOf]
    · go_wp2_with fail
      refine (HG.out _).mono ?_
      rintro e w1 ⟨v, rfl, hown, hb1⟩
      clear HG
      obtain ⟨aq, cq, rfl⟩ := owns_shape hown
      have c0 : w1.cell? ⟨g, 0, none⟩ = some v1 := keepa hb1 hg hc1
      have c1 : w1.cell? ⟨g, 1, none⟩ = some v2 := keepa hb1 hg hc2
      clear hc1' hc2'
      go_wp2
      go_loopw [6, 8, 27] (fun v u i wr => ∃ j : Nat, j ≤ 2 ∧ i = .int .i64 j ∧ wr.ownsRow w.heap.size 101 2 v (if 1 < j then (l1 ++ l2) else if 0 < j then l1 else []).length (cellsG fAmt (if 1 < j then (l1 ++ l2) else if 0 < j then l1 else [])) ∧ Below w.heap.size w wr) (fun _ _ i _ => 2 - (intOf i).toNat)
      case atStart => exact ⟨0, by omega, rfl, by simpa using hown, hb1⟩
      case round =>
        obtain ⟨j, hj, rfl, hown, hbel⟩ := hrel
        have hg1 : g < w1.heap.size := cell_lt c0
        have c0 : wr.cell? ⟨g, 0, none⟩ = some v1 := keepa (W0 := w) hbel hg hc1
        have c1 : wr.cell? ⟨g, 1, none⟩ = some v2 := keepa (W0 := w) hbel hg hc2
        rcases (show j = 0 ∨ j = 1 ∨ j = 2 by omega) with rfl | rfl | rfl
        · simp only [Nat.lt_irrefl, if_true, if_false, Nat.zero_lt_one, Nat.one_lt_two, Nat.lt_irrefl, Nat.not_lt_zero, Nat.reduceLT, List.length_nil] at hown
          obtain ⟨aq, cq, rfl⟩ := owns_shape hown
          have hR := rowG_below h1 hbel
          have hsz := hbel.size
          rcases hR with ⟨hv, hl⟩ | ⟨ad, cap, hv, hL⟩
          · rw [hv] at c0
            have hl2 := Lib.hid hl
            have hv2 := Lib.hid hv
            clear hl hv
            go_wp2_with (at_builtin; refine wpList_append_own_none rfl _ _ 102 rfl w.heap.size 101 i0 2 Try.underlying102 hi _ _ _ rfl hown rfl ?_)
            go_roundw
            case rel =>
              refine ⟨1, by omega, by go_num, ?_, hbel⟩
              have hl := hl2.out
              simpa [hl, cellsG] using hown
            case measure => simp [intOf]
          · rw [hv] at c0
            have hv2 := Lib.hid hv
            clear hv
            have hlc := hL.hlc
            have hcp := hL.hcap
            go_wp2_with (at_builtin; go_loud (refine wpList_append_own _ rfl _ _ 102 rfl w.heap.size 101 i0 (.agg #[.int .i64 0, .int .i64 0]) 2 16 Try.underlying102 hi hz0 hz1 hz2 rfl (by decide) _ _ _ rfl hown ad l1.length cap (cellsG fAmt l1) rfl (cellsG_len fAmt_len l1) (liesG_cells fAmt_len (by decide) hL) (cellsG_one fAmt l1) (by unfold maxLen; omega) (by omega) hsz ?_))
            intro v' w2 hown2 hgr hnil
            have hbel2 := hbel.grown hgr hbel.size (fun k e => (hown.lt k e).1)
            obtain ⟨ar, cr, rfl⟩ := owns_shape hown2
            go_wp2
            go_roundw
            case rel =>
              refine ⟨1, by omega, by go_num, ?_, hbel2⟩
              simpa [cellsG] using hown2
            case measure => simp [intOf]
        · simp only [if_true, if_false, Nat.zero_lt_one, Nat.one_lt_two, Nat.lt_irrefl, Nat.not_lt_zero, Nat.reduceLT, List.length_nil] at hown
          obtain ⟨aq, cq, rfl⟩ := owns_shape hown
          have hR := rowG_below h2 hbel
          have hsz := hbel.size
          rcases hR with ⟨hv, hl⟩ | ⟨ad, cap, hv, hL⟩
          · rw [hv] at c1
            have hl2 := Lib.hid hl
            have hv2 := Lib.hid hv
            clear hl hv
            go_wp2_with (at_builtin; refine wpList_append_own_none rfl _ _ 102 rfl w.heap.size 101 i0 2 Try.underlying102 hi _ _ _ rfl hown rfl ?_)
            go_roundw
            case rel =>
              refine ⟨2, by omega, by go_num, ?_, hbel⟩
              have hl := hl2.out
              simpa [hl, cellsG] using hown
            case measure => simp [intOf]
          · rw [hv] at c1
            have hv2 := Lib.hid hv
            clear hv
            have hlc := hL.hlc
            have hcp := hL.hcap
            go_wp2_with (at_builtin; go_loud (refine wpList_append_own _ rfl _ _ 102 rfl w.heap.size 101 i0 (.agg #[.int .i64 0, .int .i64 0]) 2 16 Try.underlying102 hi hz0 hz1 hz2 rfl (by decide) _ _ _ rfl hown ad l2.length cap (cellsG fAmt l2) rfl (cellsG_len fAmt_len l2) (liesG_cells fAmt_len (by decide) hL) (cellsG_one fAmt l2) (by unfold maxLen; omega) (by omega) hsz ?_))
            intro v' w2 hown2 hgr hnil
            have hbel2 := hbel.grown hgr hbel.size (fun k e => (hown.lt k e).1)
            obtain ⟨ar, cr, rfl⟩ := owns_shape hown2
            go_wp2
            go_roundw
            case rel =>
              refine ⟨2, by omega, by go_num, ?_, hbel2⟩
              simpa [cellsG] using hown2
            case measure => simp [intOf]
        · simp only [if_true, if_false, Nat.zero_lt_one, Nat.one_lt_two, Nat.lt_irrefl, Nat.not_lt_zero, Nat.reduceLT] at hown
          obtain ⟨aq, cq, rfl⟩ := owns_shape hown
          go_wp2
          go_ret
          exact ⟨_, rfl, hown, hbel⟩
end Go.Proofs.Ytiafmojmanhdoaa
