/- The laws' helpers on lists of amounts: the copy of none, the comparison of two rows. -/
import Derived.Test.YtlfbnogkbdgnaaaAmts
import Derived.Deep.RegionHeld3
namespace Go.Proofs.Ytlfbnogkbdgnaaa
open Go.ChangeShapes Go.WideShapes Go.ChangeAt Go.RowKit Go.Joins
set_option linter.unusedVariables false
set_option linter.unusedSimpArgs false

set_option maxHeartbeats 800000 in
theorem to_amts_nil (w : World) : Calls Try.prog 38 #[.slice none 0 0] w (EndCopy [] w) := by
  obtain ⟨i0, hi, hz0, hz1, hz2⟩ := info_parts infoAmt
  go_enter Try.func38, Try.ntmps38
  go_wp2_with (at_make; refine wpList_make_full _ rfl _ _ 40 rfl w.heap.size 25 i0 (.agg #[.int .i64 0, .int .i64 0]) 2 Try.underlying40 hi hz0 hz1 .i64 .i64 _ _ 0 rfl rfl rfl rfl (by rw [hz2]; omega) (by unfold maxLen; omega) (Nat.le_refl _) ?_)
  intro w1 hown1 hgr1
  have hB1 : Below w.heap.size w w1 := (Below.refl _ _).grown hgr1 (Nat.le_refl _) (fun k e => by cases e)
  go_wp2
  go_loopw [4] (fun i wr => i = .int .i64 0 ∧ wr = w1) (fun _ _ => 0)
  case atStart => exact ⟨rfl, rfl⟩
  case round =>
    obtain ⟨rfl, rfl⟩ := hrel
    go_wp2
    go_ret
    refine ⟨_, rfl, ?_, hB1⟩
    have e := List.length_eq_zero_iff.1 (hown1.1.trans (Nat.zero_mul 2))
    rw [e] at hown1
    exact hown1

set_option maxHeartbeats 1600000 in
theorem eq_amts (g h : Nat) (l : List (Int × Int)) (b1 b2 : Nat) (w : World) (hn : l.length ≤ 1048576)
    (h1 : w.ownsRow b1 25 2 (.slice (some ⟨g, 0, none⟩) l.length l.length) l.length (cellsOf2 l)) (h2 : w.ownsRow b2 25 2 (.slice (some ⟨h, 0, none⟩) l.length l.length) l.length (cellsOf2 l)) :
    Calls Try.prog 40 #[.slice (some ⟨g, 0, none⟩) l.length l.length, .slice (some ⟨h, 0, none⟩) l.length l.length] w fun e w' => e = .returned (.bool true) ∧ Below w.heap.size w w' := by
  have sg : g < w.heap.size := own_lt h1 rfl
  have sh : h < w.heap.size := own_lt h2 rfl
  go_enter Try.func40, Try.ntmps40
  go_wp2
  go_loopw [5] (fun i wr => ∃ k : Nat, k ≤ l.length ∧ i = .int .i64 k ∧ Below w.heap.size w wr) (fun i _ => l.length - (intOf i).toNat)
  case atStart => exact ⟨0, Nat.zero_le _, rfl, Below.refl _ _⟩
  case round =>
    obtain ⟨k, hk, rfl, hbel⟩ := hrel
    by_cases hlt : k < l.length
    · obtain ⟨p, hp⟩ : ∃ p, l[k]? = some p := ⟨_, List.getElem?_eq_getElem hlt⟩
      obtain ⟨c1, c2⟩ := cells_get l k p hp
      have a1 : wr.cell? ⟨g, k * 2, none⟩ = some (.int .i64 p.1) := by rw [hbel.cell (p := ⟨g, k * 2, none⟩) sg, h1.cellAt _ (by omega)]; exact c1
      have a2 : wr.cell? ⟨g, k * 2 + 1, none⟩ = some (.int .i64 p.2) := by rw [hbel.cell (p := ⟨g, k * 2 + 1, none⟩) sg, h1.cellAt _ (by omega)]; exact c2
      have a3 : wr.cell? ⟨h, k * 2, none⟩ = some (.int .i64 p.1) := by rw [hbel.cell (p := ⟨h, k * 2, none⟩) sh, h2.cellAt _ (by omega)]; exact c1
      have a4 : wr.cell? ⟨h, k * 2 + 1, none⟩ = some (.int .i64 p.2) := by rw [hbel.cell (p := ⟨h, k * 2 + 1, none⟩) sh, h2.cellAt _ (by omega)]; exact c2
      have z := hbel.size
      have s1 : g < wr.heap.size := by omega
      have s2 : h < wr.heap.size := by omega
      clear h1 h2 c1 c2 hp z
      go_wp2_with fail
      go_region_held3 (fun w' => w'.cell? ⟨g, k * 2, none⟩ = some (.int .i64 p.1) ∧ w'.cell? ⟨g, k * 2 + 1, none⟩ = some (.int .i64 p.2) ∧ w'.cell? ⟨h, k * 2, none⟩ = some (.int .i64 p.1) ∧ w'.cell? ⟨h, k * 2 + 1, none⟩ = some (.int .i64 p.2) ∧ g < w'.heap.size ∧ h < w'.heap.size) (((go_split_ands; (repeat' apply And.intro) <;> first | assumption | (simp [go_sem]; done) | go_keep))) (first | (go_at_call 23; refine (eq_same _ _ _).mono ?_; rintro e w1 ⟨rfl, hb⟩; go_split_ands; (have f1 := (hb.cell (p := ⟨g, k * 2, none⟩) (by assumption)).trans (by assumption)); (have f2 := (hb.cell (p := ⟨g, k * 2 + 1, none⟩) (by assumption)).trans (by assumption)); (have f3 := (hb.cell (p := ⟨h, k * 2, none⟩) (by assumption)).trans (by assumption)); (have f4 := (hb.cell (p := ⟨h, k * 2 + 1, none⟩) (by assumption)).trans (by assumption)); (have f5 : g < w1.heap.size := Nat.lt_of_lt_of_le (by assumption) hb.size); (have f6 : h < w1.heap.size := Nat.lt_of_lt_of_le (by assumption) hb.size)))
      all_goals go_wp2
      all_goals go_roundw
      case rel => exact ⟨k + 1, by omega, by go_num, by (repeat (first | exact Below.refl _ _ | assumption | refine balloc ?_ _ | refine bdrew ?_ | refine bset ?_ ?_ _ | exact Nat.le_refl _ | refine bsize ?_ | (dsimp only; refine Nat.le_trans ?_ (Nat.le_add_right _ _)) | refine Nat.le_trans ?_ (Nat.le_add_right _ _) | (refine bstep ?_ (by assumption))))⟩
      case measure => simp [intOf]; omega
    · have hkn : k = l.length := by omega
      clear h1 h2
      go_wp2
      go_ret
      refine ⟨rfl, ?_⟩
      (repeat (first | exact Below.refl _ _ | assumption | refine balloc ?_ _ | refine bdrew ?_ | refine bset ?_ ?_ _ | exact Nat.le_refl _ | refine bsize ?_ | (dsimp only; refine Nat.le_trans ?_ (Nat.le_add_right _ _)) | refine Nat.le_trans ?_ (Nat.le_add_right _ _) | (refine bstep ?_ (by assumption))))

/-- SumAmounts of too many. -/
theorem sum_spec_many (a : Option Addr) (n cap : Nat) (w : World) (h : 50 < n) (hn : n ≤ 1048576) :
    Calls Try.prog 37 #[.slice a n cap] w fun e w' => e = .returned (.tuple #[.agg #[.int .i64 0, .int .i64 0], .bool false]) ∧ Below w.heap.size w w' := by
  go_enter Try.func37, Try.ntmps37
  go_wp2
  refine bodyPost_ret (v := .tuple #[.agg #[.int .i64 0, .int .i64 0], .bool false]) (by simp only [results, Try.results37]; go_simp) rfl ⟨rfl, ?_⟩
  (repeat (first | exact Below.refl _ _ | assumption | refine balloc ?_ _ | refine bdrew ?_ | refine bset ?_ ?_ _ | exact Nat.le_refl _ | refine bsize ?_ | (dsimp only; refine Nat.le_trans ?_ (Nat.le_add_right _ _)) | refine Nat.le_trans ?_ (Nat.le_add_right _ _) | (refine bstep ?_ (by assumption))))
theorem sum_impl_many (a : Option Addr) (n cap : Nat) (w : World) (h : 50 < n) (hn : n ≤ 1048576) :
    Calls Try.prog 39 #[.slice a n cap] w fun e w' => e = .returned (.tuple #[.agg #[.int .i64 0, .int .i64 0], .bool false]) ∧ Below w.heap.size w w' := by
  go_enter Try.func39, Try.ntmps39
  go_wp2
  refine bodyPost_ret (v := .tuple #[.agg #[.int .i64 0, .int .i64 0], .bool false]) (by simp only [results, Try.results39]; go_simp) rfl ⟨rfl, ?_⟩
  (repeat (first | exact Below.refl _ _ | assumption | refine balloc ?_ _ | refine bdrew ?_ | refine bset ?_ ?_ _ | exact Nat.le_refl _ | refine bsize ?_ | (dsimp only; refine Nat.le_trans ?_ (Nat.le_add_right _ _)) | refine Nat.le_trans ?_ (Nat.le_add_right _ _) | (refine bstep ?_ (by assumption))))

theorem sz_amts (a : Option Addr) (n cap : Nat) (w : World) (hn : n ≤ 9223372036854775807) :
    Calls Try.prog 36 #[.slice a n cap, .int .i64 1048576] w fun e w' => e = .returned (.int .i64 (if n ≤ 1048576 then 1048576 - (n : Int) else -1)) ∧ Below w.heap.size w w' := by
  by_cases h : n ≤ 1048576
  · rw [if_pos h]
    go_enter Try.func36, Try.ntmps36
    go_wp2
    go_ret
    refine ⟨rfl, ?_⟩
    (repeat (first | exact Below.refl _ _ | assumption | refine balloc ?_ _ | refine bdrew ?_ | refine bset ?_ ?_ _ | exact Nat.le_refl _ | refine bsize ?_ | (dsimp only; refine Nat.le_trans ?_ (Nat.le_add_right _ _)) | refine Nat.le_trans ?_ (Nat.le_add_right _ _) | (refine bstep ?_ (by assumption))))
  · rw [if_neg h]
    go_enter Try.func36, Try.ntmps36
    go_wp2
    go_ret
    refine ⟨rfl, ?_⟩
    (repeat (first | exact Below.refl _ _ | assumption | refine balloc ?_ _ | refine bdrew ?_ | refine bset ?_ ?_ _ | exact Nat.le_refl _ | refine bsize ?_ | (dsimp only; refine Nat.le_trans ?_ (Nat.le_add_right _ _)) | refine Nat.le_trans ?_ (Nat.le_add_right _ _) | (refine bstep ?_ (by assumption))))
end Go.Proofs.Ytlfbnogkbdgnaaa
