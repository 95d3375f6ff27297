/- The laws' helpers on puzzles: the copy, the comparison, the size, the marks. -/
import Derived.Test.YtiafmojmanhdoaaLClue
import Derived.Test.YtiafmojmanhdoaaQClue
import Derived.Test.YtiafmojmanhdoaaRClue
import Derived.Test.YtiafmojmanhdoaaRowsL
import Derived.Test.YtiafmojmanhdoaaRowS
import Derived.Test.YtiafmojmanhdoaaBlk
import Derived.Deep.RegionHeld3
import Derived.Deep.DeepCutAuto
namespace Go.Proofs.Ytiafmojmanhdoaa
open Go.ChangeShapes Go.WideShapes Go.ChangeAt Go.RowKit Go.Joins
set_option maxRecDepth 100000
set_option linter.unusedVariables false
set_option linter.unusedSimpArgs false


set_option maxHeartbeats 1600000 in
theorem eqPz_same (m : Int) (s1 s2 : Value) (w : World)
    (hS : ∀ W, Below w.heap.size w W → Calls Try.prog 61 #[s1, s2] W fun e w' => e = .returned (.bool true) ∧ Below W.heap.size W w') :
    Calls Try.prog 24 #[.agg #[.int .i64 m, s1], .agg #[.int .i64 m, s2]] w fun e w' => e = .returned (.bool true) ∧ Below w.heap.size w w' := by
  go_enter Try.func24, Try.ntmps24
  (go_wp2_with fail; refine (hS _ (by (repeat (first | with_reducible exact Below.refl _ _ | with_reducible assumption | with_reducible refine balloc ?_ _ | with_reducible refine bdrew ?_ | with_reducible refine below_drewN ?_ _ | with_reducible refine bset ?_ ?_ _ | with_reducible exact Nat.le_refl _ | with_reducible refine bsize ?_ | (dsimp only; refine Nat.le_trans ?_ (Nat.le_add_right _ _)) | with_reducible refine Nat.le_trans ?_ (Nat.le_add_right _ _) | (with_reducible refine bstep ?_ (by assumption)))))).mono ?_; rintro e w4 ⟨rfl, hb4⟩; (have ha4 : Below w.heap.size w w4 := by (repeat (first | with_reducible exact Below.refl _ _ | with_reducible assumption | with_reducible refine balloc ?_ _ | with_reducible refine bdrew ?_ | with_reducible refine below_drewN ?_ _ | with_reducible refine bset ?_ ?_ _ | with_reducible exact Nat.le_refl _ | with_reducible refine bsize ?_ | (dsimp only; refine Nat.le_trans ?_ (Nat.le_add_right _ _)) | with_reducible refine Nat.le_trans ?_ (Nat.le_add_right _ _) | (with_reducible refine bstep ?_ (by assumption))))); obtain ⟨kc4, kf4, kz4, ky4, kx4, kv4, ku4⟩ := bcell hb4)
  clear kc4 kf4 kz4 ky4 kx4 kv4 ku4
  go_wp2
  go_ret
  refine ⟨rfl, ?_⟩
  (repeat (first | with_reducible exact Below.refl _ _ | with_reducible assumption | with_reducible refine balloc ?_ _ | with_reducible refine bdrew ?_ | with_reducible refine below_drewN ?_ _ | with_reducible refine bset ?_ ?_ _ | with_reducible exact Nat.le_refl _ | with_reducible refine bsize ?_ | (dsimp only; refine Nat.le_trans ?_ (Nat.le_add_right _ _)) | with_reducible refine Nat.le_trans ?_ (Nat.le_add_right _ _) | (with_reducible refine bstep ?_ (by assumption))))
/-- The ending of a puzzle's copy. -/
def EndPz (m : Int) (l : List ClueV) (w : World) (en : Ending) (w' : World) : Prop :=
  ∃ g, en = .returned (.agg #[.int .i64 m, .slice (some ⟨g, 0, none⟩) l.length l.length]) ∧
    w'.ownsRow w.heap.size 27 3 (.slice (some ⟨g, 0, none⟩) l.length l.length) l.length (cellsG fClue l) ∧ Below w.heap.size w w'
set_option maxHeartbeats 3200000 in
theorem toPz_any (m : Int) (s : Value) (l : List ClueV) (w : World)
    (hS : ∀ W, Below w.heap.size w W → Calls Try.prog 59 #[s] W (EndCopyG 27 3 fClue l W)) :
    Calls Try.prog 21 #[.agg #[.int .i64 m, s]] w (EndPz m l w) := by
  go_enter Try.func21, Try.ntmps21
  go_wp2_with fail; refine (hS _ (by (repeat (first | with_reducible exact Below.refl _ _ | with_reducible assumption | with_reducible refine balloc ?_ _ | with_reducible refine bdrew ?_ | with_reducible refine below_drewN ?_ _ | with_reducible refine bset ?_ ?_ _ | with_reducible exact Nat.le_refl _ | with_reducible refine bsize ?_ | (dsimp only; refine Nat.le_trans ?_ (Nat.le_add_right _ _)) | with_reducible refine Nat.le_trans ?_ (Nat.le_add_right _ _) | (with_reducible refine bstep ?_ (by assumption)))))).mono ?_; rintro en w4 ⟨g, rfl, hown4, hb4⟩
  have ha4 : Below w.heap.size w w4 := by (repeat (first | with_reducible exact Below.refl _ _ | with_reducible assumption | with_reducible refine balloc ?_ _ | with_reducible refine bdrew ?_ | with_reducible refine below_drewN ?_ _ | with_reducible refine bset ?_ ?_ _ | with_reducible exact Nat.le_refl _ | with_reducible refine bsize ?_ | (dsimp only; refine Nat.le_trans ?_ (Nat.le_add_right _ _)) | with_reducible refine Nat.le_trans ?_ (Nat.le_add_right _ _) | (with_reducible refine bstep ?_ (by assumption))))
  have hg : w.heap.size + 1 + 1 < g := by
    have h := own_block hown4 rfl
    simp at h
    omega
  obtain ⟨kc4, kf4, kz4, ky4, kx4, kv4, ku4⟩ := bcell hb4
  have q4_h_1_0 : w4.cell? ⟨w.heap.size + 1, 0, none⟩ = some (.int .i64 0) := by rw [kc4 _ _ (by first | assumption | (simp; done) | (simp; omega) | omega)]; simp [go_sem]
  have r4_h_1_0 : w4.frozen? ⟨w.heap.size + 1, 0, none⟩ = false := by rw [kf4 _ _ (by first | assumption | (simp; done) | (simp; omega) | omega)]; simp [go_sem]
  have q4_h_1_1 : w4.cell? ⟨w.heap.size + 1, 1, none⟩ = some (.slice none 0 0) := by rw [kc4 _ _ (by first | assumption | (simp; done) | (simp; omega) | omega)]; simp [go_sem]
  have r4_h_1_1 : w4.frozen? ⟨w.heap.size + 1, 1, none⟩ = false := by rw [kf4 _ _ (by first | assumption | (simp; done) | (simp; omega) | omega)]; simp [go_sem]
  have z4_h_1 : w.heap.size + 1 < w4.heap.size := kz4 _ (by first | assumption | (simp; done) | (simp; omega) | omega)
  have q4_h_1_1_0 : w4.cell? ⟨w.heap.size + 1 + 1, 0, none⟩ = some (.int .i64 m) := by rw [kc4 _ _ (by first | assumption | (simp; done) | (simp; omega) | omega)]; simp [go_sem]
  have r4_h_1_1_0 : w4.frozen? ⟨w.heap.size + 1 + 1, 0, none⟩ = false := by rw [kf4 _ _ (by first | assumption | (simp; done) | (simp; omega) | omega)]; simp [go_sem]
  have q4_h_1_1_1 : w4.cell? ⟨w.heap.size + 1 + 1, 1, none⟩ = some (.slice none 0 0) := by rw [kc4 _ _ (by first | assumption | (simp; done) | (simp; omega) | omega)]; simp [go_sem]
  have r4_h_1_1_1 : w4.frozen? ⟨w.heap.size + 1 + 1, 1, none⟩ = false := by rw [kf4 _ _ (by first | assumption | (simp; done) | (simp; omega) | omega)]; simp [go_sem]
  have z4_h_1_1 : w.heap.size + 1 + 1 < w4.heap.size := kz4 _ (by first | assumption | (simp; done) | (simp; omega) | omega)
  clear kc4 kf4 kz4 ky4 kx4 kv4 ku4 hb4
  go_wp2
  refine bodyPost_ret (v := .agg #[.int .i64 m, .slice (some ⟨g, 0, none⟩) l.length l.length]) (by simp only [results, Try.results21]; go_simp) rfl ⟨g, rfl, ?_, ?_⟩
  · (repeat (refine own_set ?_ (by simp only [Value.ownBlock, ne_eq, Option.some.injEq]; omega) _))
    exact own_mono hown4 (by (repeat (first | with_reducible exact Below.refl _ _ | with_reducible assumption | with_reducible refine balloc ?_ _ | with_reducible refine bdrew ?_ | with_reducible refine below_drewN ?_ _ | with_reducible refine bset ?_ ?_ _ | with_reducible exact Nat.le_refl _ | with_reducible refine bsize ?_ | (dsimp only; refine Nat.le_trans ?_ (Nat.le_add_right _ _)) | with_reducible refine Nat.le_trans ?_ (Nat.le_add_right _ _) | (with_reducible refine bstep ?_ (by assumption)))))
  · (repeat (first | with_reducible exact Below.refl _ _ | with_reducible assumption | with_reducible refine balloc ?_ _ | with_reducible refine bdrew ?_ | with_reducible refine below_drewN ?_ _ | with_reducible refine bset ?_ ?_ _ | with_reducible exact Nat.le_refl _ | with_reducible refine bsize ?_ | (dsimp only; refine Nat.le_trans ?_ (Nat.le_add_right _ _)) | with_reducible refine Nat.le_trans ?_ (Nat.le_add_right _ _) | (with_reducible refine bstep ?_ (by assumption))))
theorem sz_pz (m : Int) (sa : Option Addr) (k cap : Nat) (w : World) (hn : k ≤ 9223372036854775807) :
    Calls Try.prog 19 #[.agg #[.int .i64 m, .slice sa k cap], .int .i64 1048576] w fun e w' => e = .returned (.int .i64 (if k ≤ 1048576 then 1048576 - (k : Int) else -1)) ∧ Below w.heap.size w w' := by
  have hsz := fun W => sz_clues sa k cap W hn
  have HS := Lib.hid hsz
  clear hsz
  by_cases h : k ≤ 1048576
  · rw [if_pos h]
    go_enter Try.func19, Try.ntmps19
    go_wp2_with fail; refine (HS.out _).mono ?_; rintro e w1 ⟨rfl, hb1⟩; rw [if_pos h]
    have ha1 : Below w.heap.size w w1 := by (repeat (first | with_reducible exact Below.refl _ _ | with_reducible assumption | with_reducible refine balloc ?_ _ | with_reducible refine bdrew ?_ | with_reducible refine below_drewN ?_ _ | with_reducible refine bset ?_ ?_ _ | with_reducible exact Nat.le_refl _ | with_reducible refine bsize ?_ | (dsimp only; refine Nat.le_trans ?_ (Nat.le_add_right _ _)) | with_reducible refine Nat.le_trans ?_ (Nat.le_add_right _ _) | (with_reducible refine bstep ?_ (by assumption))))
    go_wp2
    go_ret
    refine ⟨rfl, ?_⟩
    (repeat (first | with_reducible exact Below.refl _ _ | with_reducible assumption | with_reducible refine balloc ?_ _ | with_reducible refine bdrew ?_ | with_reducible refine below_drewN ?_ _ | with_reducible refine bset ?_ ?_ _ | with_reducible exact Nat.le_refl _ | with_reducible refine bsize ?_ | (dsimp only; refine Nat.le_trans ?_ (Nat.le_add_right _ _)) | with_reducible refine Nat.le_trans ?_ (Nat.le_add_right _ _) | (with_reducible refine bstep ?_ (by assumption))))
  · rw [if_neg h]
    go_enter Try.func19, Try.ntmps19
    go_wp2_with fail; refine (HS.out _).mono ?_; rintro e w1 ⟨rfl, hb1⟩; rw [if_neg h]
    have ha1 : Below w.heap.size w w1 := by (repeat (first | with_reducible exact Below.refl _ _ | with_reducible assumption | with_reducible refine balloc ?_ _ | with_reducible refine bdrew ?_ | with_reducible refine below_drewN ?_ _ | with_reducible refine bset ?_ ?_ _ | with_reducible exact Nat.le_refl _ | with_reducible refine bsize ?_ | (dsimp only; refine Nat.le_trans ?_ (Nat.le_add_right _ _)) | with_reducible refine Nat.le_trans ?_ (Nat.le_add_right _ _) | (with_reducible refine bstep ?_ (by assumption))))
    go_wp2
    go_ret
    refine ⟨rfl, ?_⟩
    (repeat (first | with_reducible exact Below.refl _ _ | with_reducible assumption | with_reducible refine balloc ?_ _ | with_reducible refine bdrew ?_ | with_reducible refine below_drewN ?_ _ | with_reducible refine bset ?_ ?_ _ | with_reducible exact Nat.le_refl _ | with_reducible refine bsize ?_ | (dsimp only; refine Nat.le_trans ?_ (Nat.le_add_right _ _)) | with_reducible refine Nat.le_trans ?_ (Nat.le_add_right _ _) | (with_reducible refine bstep ?_ (by assumption))))
/-- A puzzle in a block. -/
def PzAt (g : Nat) (m : Int) (v : Value) (W : World) : Prop := W.cell? ⟨g, 0, none⟩ = some (.int .i64 m) ∧ W.cell? ⟨g, 1, none⟩ = some v ∧ g < W.heap.size
theorem PzAt.later {g : Nat} {m : Int} {v : Value} {W W' : World} (h : PzAt g m v W) (hb : Below W.heap.size W W') : PzAt g m v W' :=
  ⟨keepa hb h.2.2 h.1, keepa hb h.2.2 h.2.1, Nat.lt_of_lt_of_le h.2.2 hb.size⟩
theorem PzAt.new (W : World) (m : Int) (v : Value) (t : TypeId) : PzAt W.heap.size m v (W.alloc (.cells #[.int .i64 m, v] t)) :=
  ⟨by simp [go_sem], by simp [go_sem], by simp⟩
theorem PzAt.alloc {g : Nat} {m : Int} {v : Value} {W : World} (h : PzAt g m v W) (o : Obj) : PzAt g m v (W.alloc o) := h.later ((Below.refl _ _).alloc (Nat.le_refl _) o)
theorem PzAt.drew {g : Nat} {m : Int} {v : Value} {W : World} (h : PzAt g m v W) : PzAt g m v W.drew := h.later ((Below.refl _ _).drew)
theorem PzAt.grown {g : Nat} {m : Int} {v : Value} {W W' : World} (h : PzAt g m v W) {row : Option Nat} (hg : W.grownBy W' row) (hne : some g ≠ row) : PzAt g m v W' :=
  ⟨hg.cell h.1 hne, hg.cell h.2.1 hne, Nat.lt_of_lt_of_le h.2.2 hg.size⟩
theorem grown_alloc9 (w : World) (o : Obj) (row : Option Nat) : w.grownBy (w.alloc o) row :=
  ⟨rfl, rfl, rfl, by simp, fun k hk _ => Below.heap_alloc w o k hk⟩
set_option maxHeartbeats 800000 in
theorem markPz_any (m : Int) (base k : Nat) (v : Value) (s : Int) (xs : List Value) (w : World) (hn : k ≤ 1048576) (s0 : 0 ≤ s) (s1 : s ≤ 100000000) (hown : w.ownsRow base 27 3 v k xs) :
    Calls Try.prog 25 #[.agg #[.int .i64 m, v], .int .i64 s] w fun e w' => e = .returned (.int .i64 (s + 3 * (k : Int))) ∧ w.grownBy w' v.ownBlock ∧
      ∃ ys, w'.ownsRow base 27 3 v k ys ∧ ∀ i : Nat, i < k * 3 → ys[i]? = some (.int .i64 (s + (i : Int))) := by
  have HM := Lib.hid (fun W (h : W.ownsRow base 27 3 v k xs) => markr_clues base k v s xs W hn s0 s1 h)
  go_enter Try.func25, Try.ntmps25
  go_wp2_with fail
  refine (HM.out _ (hown.alloc _)).mono ?_
  rintro e w1 ⟨rfl, hgr, ys, hY, hall⟩
  have hg2 := grown_trans (grown_alloc9 w (.cells #[.int .i64 m, v] 41) v.ownBlock) hgr
  have HA := Lib.hid hall
  clear hall hgr
  go_wp2
  go_ret
  exact ⟨rfl, hg2, ys, hY, HA.out⟩
set_option maxHeartbeats 800000 in
theorem heldPz_any (m : Int) (base k : Nat) (v : Value) (s : Int) (ys : List Value) (w : World) (hn : k ≤ 1048576) (s0 : 0 ≤ s) (s1 : s ≤ 100000000) (hown : w.ownsRow base 27 3 v k ys) (hall : ∀ i : Nat, i < k * 3 → ys[i]? = some (.int .i64 (s + (i : Int)))) :
    Calls Try.prog 46 #[.agg #[.int .i64 m, v], .int .i64 s] w fun e w' => e = .returned (.int .i64 (s + 3 * (k : Int))) ∧ Below w.heap.size w w' := by
  have HM := Lib.hid (fun W (h : W.ownsRow base 27 3 v k ys) => heldr_clues base k v s ys W hn s0 s1 h hall)
  clear hall
  have hneg : ¬ (s + 3 * (k : Int) < 0) := by omega
  go_enter Try.func46, Try.ntmps46
  go_wp2_with fail
  refine (HM.out _ (hown.alloc _)).mono ?_
  rintro e w1 ⟨rfl, hb1⟩
  go_wp2
  go_ret
  refine ⟨rfl, ?_⟩
  (repeat (first | with_reducible exact Below.refl _ _ | with_reducible assumption | with_reducible refine balloc ?_ _ | with_reducible refine bdrew ?_ | with_reducible refine below_drewN ?_ _ | with_reducible refine bset ?_ ?_ _ | with_reducible exact Nat.le_refl _ | with_reducible refine bsize ?_ | (dsimp only; refine Nat.le_trans ?_ (Nat.le_add_right _ _)) | with_reducible refine Nat.le_trans ?_ (Nat.le_add_right _ _) | (with_reducible refine bstep ?_ (by assumption))))
section
variable {H : Type} {enc : TypeId × Value → H} {W : World} {base : Nat} {spare : Nat → Bool} {held : Bool} 
theorem open_pz {b0 : Nat} {v : Value} {dd : DataW H} {pl : List MemPlace} (hv : Value.okWide Try.prog W .any b0 34 v) (h : DataW.Trod enc Try.prog W base spare held 34 v dd pl) :
    ∃ (m : Int) (s : Value), v = .agg #[.int .i64 m, s] ∧ (-9223372036854775808 ≤ m ∧ m ≤ 9223372036854775807) ∧ AnyG 3 fClue W s := by
  obtain ⟨cs, rfl, hsz⟩ := okWide_struct Try.underlying34 hv
  obtain ⟨fuel, hf⟩ := h
  obtain ⟨y0, y1, n', _, hl, h0, h1⟩ := trod_struct2 Try.underlying34 hf
  obtain ⟨a, e0, ba⟩ := trod_cell h0
  obtain ⟨s, e1, hs⟩ := open_cellsG (α := ClueV) fClue_len Try.underlying32 cellsClue (fun n cs x h => trod_clue h) h1
  have hC : Try.prog.cellsOf 32 = 1 := by kernel_rfl
  rw [show Try.prog.cellsOf 34 = 2 by kernel_rfl] at hl
  obtain ⟨cs⟩ := cs
  match cs, hl with
  | [c0, c1], _ =>
    simp [Value.cells, cellsInt, hC] at e0 e1
    subst e0 e1
    exact ⟨a, _, rfl, ba, hs⟩
end
end Go.Proofs.Ytiafmojmanhdoaa
