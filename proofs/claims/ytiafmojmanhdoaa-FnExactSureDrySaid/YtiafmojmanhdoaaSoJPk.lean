/- Puzzles: lists of wells put together by the library, of the program. -/
import Derived.Test.YtiafmojmanhdoaaSoQPk
import Derived.Test.YtiafmojmanhdoaaSoHPk
import Derived.Laws.AppendOwnNone
import Derived.Lib.AppendZerosOnto
namespace Go.Proofs.Ytiafmojmanhdoaa
open Go.ChangeShapes Go.WideShapes Go.ChangeAt Go.RowKit Go.Joins
set_option maxRecDepth 100000
set_option linter.unusedVariables false
set_option linter.unusedSimpArgs false

set_option maxHeartbeats 1600000 in
theorem catI_grow (n : Nat) (hn : n ≤ 2097152) (w : World) :
    Calls Try.prog 107 #[.slice none 0 0, .int .i64 n] w (EndL 3 1 fInt ([] : List Int) w) := by
  obtain ⟨i0, hi, hz0, hz1, hz2⟩ := info_parts infoInt
  by_cases h0 : n = 0
  · subst h0
    go_enter Try.func107, Try.ntmps107
    go_wp2
    go_ret
    exact ⟨_, rfl, World.ownsRow_nil _ _ _ _, Below.refl _ _⟩
  · have hcap0 : n ≤ grownCap w n 0 3 := grownCap_ge w _ _ _
    have hcapM : grownCap w n 0 3 ≤ maxLen := grownCap_le_maxLen w n 0 3 (by unfold maxLen; omega)
    have hrz : ∀ ty, (Builtin.append_ #[24, 3] ty #[.slice none 0 0, .int .i64 (n : Int)]).run Try.prog w =
        .ok (.slice (some ⟨w.heap.size, 0, none⟩) n (grownCap w n 0 3)) (w.drew.alloc (.cells (Builtin.zeroCells (.int .i64 0 : Value).cells n ++ Builtin.zeroCells (.int .i64 0 : Value).cells (grownCap w n 0 3 - n)) 3)) := fun ty => by
      have h := Lib.run_append_grow_zeros (P := Try.prog) w 24 3 ty 3 i0 _ .i64 .i64 Try.underlying24 Try.underlying3 hi hz0 none 0 0 [] (run_firstCells_none _ _ _ _ _) n (by omega) (by rw [hz1]; omega) (by omega) (by omega)
        (by rw [hz2]; omega) (by rw [hz2]; rw [show 0 + n = n by omega]; exact growslice_fits (by omega) (by omega))
      rw [show 0 + n = n by omega] at h
      simpa using h
    obtain ⟨G, hG⟩ : ∃ G, G = grownCap w n 0 3 := ⟨_, rfl⟩
    rw [← hG] at hrz hcap0 hcapM
    unfold maxLen at hcapM
    clear hG
    go_enter Try.func107, Try.ntmps107
    go_wp2_with (at_builtin; refine Lib.wpList_append_run _ rfl _ _ _ _ rfl _ _ rfl rfl _ _ (hrz _) ?_)
    all_goals
      go_ret
      refine ⟨_, rfl, ?_, by (repeat (first | with_reducible exact Below.refl _ _ | with_reducible assumption | with_reducible refine balloc ?_ _ | with_reducible refine bdrew ?_ | with_reducible refine below_drewN ?_ _ | with_reducible refine bset ?_ ?_ _ | with_reducible exact Nat.le_refl _ | with_reducible refine bsize ?_ | (dsimp only; refine Nat.le_trans ?_ (Nat.le_add_right _ _)) | with_reducible refine Nat.le_trans ?_ (Nat.le_add_right _ _) | (with_reducible refine bstep ?_ (by assumption))))⟩
      exact World.ownsRow_made w.drew _ G (by simp) (by unfold maxLen; omega) (by simp [size_zeroCells, Value.cells]; omega)
/-- The first j lists, one behind the other. -/
def flZ (Z : ZL) (j : Nat) : List Int := ((Z.take j).map Prod.snd).flatten
theorem flZ_succ {Z : ZL} {j : Nat} {p : Value × List Int} (h : Z[j]? = some p) : flZ Z (j + 1) = flZ Z j ++ p.2 := by
  rw [flZ, List.take_add_one, h, List.map_append, List.flatten_append]
  simp [flZ]
theorem flZ_len (Z : ZL) (j : Nat) : (flZ Z j).length = offZ Z j := by
  rw [flZ, List.length_flatten, List.map_map]; rfl
set_option maxHeartbeats 6400000 in
theorem concatZ_impl (lo : Nat) (a : Option Addr) (c : Nat) (Z : ZL) (W : World) (hR : RowsZ lo W (.slice a Z.length c) Z) (hZ : Z.length ≤ 1000) (hs : ∀ p ∈ Z, p.2.length ≤ 100) :
    Calls Try.prog 97 #[.slice a Z.length c] W (EndL 3 1 fInt (flZ Z Z.length) W) := by
  obtain ⟨j0, hj0, hy0, hy1, hy2⟩ := info_parts infoInt
  obtain ⟨n, hn⟩ : ∃ n, Z.length = n := ⟨_, rfl⟩
  have HN := Lib.hid hn
  have hcc := own_addr hR.out
  have HO := Lib.hid (fun j => offZ_le Z 100 hs j)
  have H1 := Lib.hid (show W.ownsRow lo 24 1 (.slice a n c) n (Z.map Prod.fst) by rw [← hn]; exact hR.out)
  have HI := Lib.hid hR.inn
  have HS := Lib.hid hs
  rw [hn] at hcc hZ ⊢
  have hnc := hcc.2.1
  have hcm : c ≤ 9223372036854775807 := by have := hcc.2.2.1; unfold maxLen at this; omega
  have hon := HO.out n
  have HG := Lib.hid (fun W => catI_grow (offZ Z n) (by omega) W)
  clear hcc hn hR hs
  go_enter Try.func97, Try.ntmps97
  go_wp2
  go_loopw [3, 11] (fun sz i wr => ∃ j : Nat, j ≤ n ∧ i = .int .i64 j ∧ sz = .int .i64 (offZ Z j : Int) ∧ W = wr) (fun _ i _ => n - (intOf i).toNat)
  case atStart => exact ⟨0, Nat.zero_le _, rfl, by simp [offZ], rfl⟩
  case round =>
    obtain ⟨j, hj, rfl, rfl, rfl⟩ := hrel
    by_cases hlt : j < n
    · obtain ⟨p, hp⟩ : ∃ p, Z[j]? = some p := ⟨_, List.getElem?_eq_getElem (by rw [HN.out]; exact hlt)⟩
      obtain ⟨d1, rfl, e1⟩ := cellZ H1.out hp
      obtain ⟨pa, pc, hps⟩ := owns_shape (HI.out.row p (List.mem_of_getElem? hp))
      have hso := Lib.hid (offZ_succ hp)
      have hoj := HO.out j
      have hsp := HS.out p (List.mem_of_getElem? hp)
      obtain ⟨np, hnp⟩ : ∃ n, p.2.length = n := ⟨_, rfl⟩
      have HNP := Lib.hid hnp
      rw [hnp] at hsp
      rw [hps, hnp] at e1
      clear hps hp hnp
      have hneg : ¬ ((offZ Z j : Int) + (np : Int) < 0) := by omega
      go_wp2
      go_roundw
      case rel => exact ⟨j + 1, by omega, by go_num, by rw [hso.out, HNP.out]; push_cast; rfl, trivial⟩
      case measure => simp [intOf]; omega
    · have hjn : j = n := by omega
      subst hjn
      go_wp2_with fail
      refine Calls.mono (HG.out _) ?_
      rintro e w1 ⟨v1, rfl, hown1, hb1⟩
      obtain ⟨v1a, v1c, hv1⟩ := owns_shape hown1
      subst hv1
      have hown1' : w1.ownsRow W.heap.size 3 1 (.slice v1a 0 v1c) 0 (cellsG fInt (flZ Z 0)) := by simpa [flZ, cellsG] using hown1
      clear hown1
      go_wp2
      go_loopw [6, 27] (fun l i wr => ∃ (k nk : Nat) (v6 : Value), k ≤ j ∧ i = .int .i64 k ∧ v6 = l ∧ Hid (offZ Z k = nk) ∧ wr.ownsRow W.heap.size 3 1 v6 nk (cellsG fInt (flZ Z k)) ∧ Below W.heap.size W wr) (fun _ i _ => j - (intOf i).toNat)
      case atStart => exact ⟨0, 0, _, Nat.zero_le _, rfl, rfl, Lib.hid (by simp [offZ]), hown1', hb1⟩
      case round =>
        obtain ⟨k, nk, v6, hk, rfl, rfl, hnk, hown6, hbel⟩ := hrel
        clear hown1' hb1
        obtain ⟨v6a, v6c, rfl⟩ := owns_shape hown6
        by_cases hlt2 : k < j
        · obtain ⟨p, hp⟩ : ∃ p, Z[k]? = some p := ⟨_, List.getElem?_eq_getElem (by rw [HN.out]; exact hlt2)⟩
          obtain ⟨d1, rfl, e1⟩ := cellZ (ownsRow_below H1.out hbel) hp
          have hrow := ownsRow_below (HI.out.row p (List.mem_of_getElem? hp)) hbel
          obtain ⟨pa, pc, hps⟩ := owns_shape hrow
          have hso := Lib.hid (offZ_succ hp)
          have hfl := Lib.hid (flZ_succ hp)
          have hoj := HO.out k
          have hsp := HS.out p (List.mem_of_getElem? hp)
          obtain ⟨np, hnp⟩ : ∃ n, p.2.length = n := ⟨_, rfl⟩
          have HNP := Lib.hid hnp
          rw [hnk.out] at hoj
          rw [hnp] at hsp
          rw [hps, hnp] at e1 hrow
          have HRO := Lib.hid hrow
          have hzz := hbel.size
          have hcl := Lib.hid (show (cellsG fInt p.2).length = np * 1 by rw [cellsG_len fInt_len, hnp])
          clear hps hp hnp hrow
          go_wp2_with (at_builtin; refine wpList_append_any9 _ rfl _ _ 24 rfl W.heap.size 3 j0 (.int .i64 0) 1 8 Try.underlying24 hj0 hy0 hy1 hy2 rfl (by decide) (.slice v6a nk v6c) nk (cellsG fInt (flZ Z k)) rfl hown6 pa np pc (cellsG fInt p.2) ?c0 ?c9 hcl.out ?c7 (cellsG_one _ _) ?c3 ?c4 ?c5 ?_)
          case c0 => simp [Act.eval, Act.put]
          case c9 => exact (own_addr HRO.out).1
          case c7 => exact (own_addr HRO.out).2.2.2
          case c3 => unfold maxLen; omega
          case c4 => omega
          case c5 => exact hzz
          intro v7 w7 hown7 hgr7
          have hbel7 : Below W.heap.size W w7 := grown_bel hbel hgr7 hown6 (Nat.le_refl _)
          have hown7' : w7.ownsRow W.heap.size 3 1 v7 (nk + np) (cellsG fInt (flZ Z (k + 1))) := by rw [hfl.out, cellsG_append]; exact hown7
          obtain ⟨v7a, v7c, rfl⟩ := owns_shape hown7'
          clear hown7 hgr7 hown6 hbel
          go_wp2
          go_roundw
          case rel => exact ⟨k + 1, nk + np, _, by omega, by go_num, rfl, Lib.hid (by rw [hso.out, HNP.out, hnk.out]), hown7', hbel7⟩
          case measure => simp [intOf]; omega
        · have hkj : k = j := by omega
          subst hkj
          have hown7 : wr.ownsRow W.heap.size 3 1 (.slice v6a nk v6c) (flZ Z k).length (cellsG fInt (flZ Z k)) := by rw [flZ_len, hnk.out]; exact hown6
          clear hown6
          go_wp2
          go_ret
          exact ⟨_, rfl, hown7, hbel⟩
end Go.Proofs.Ytiafmojmanhdoaa
