/- The walk of the law FnExactIsSolved: it answers as the model does, at every puzzle; the puzzle stays as it was. No condition. -/
import Derived.Test.YtiafmojmanhdoaaPzS
import Derived.Test.YtiafmojmanhdoaaPzP
import Derived.Test.YtiafmojmanhdoaaPkS9d
import Derived.Deep.RegionHeld3
import Derived.Deep.DeepCutAuto
namespace Go.Proofs.Ytiafmojmanhdoaa
open Go.ChangeShapes Go.WideShapes Go.ChangeAt Go.RowKit Go.Joins
set_option maxRecDepth 100000
set_option linter.unusedVariables false
set_option linter.unusedSimpArgs false

set_option maxHeartbeats 6400000 in
theorem isSolved_walk_of (m : Int) (bm : (-9223372036854775808 ≤ m ∧ m ≤ 9223372036854775807)) (sa : Option Addr) (cap : Nat) (l : List ClueV) (w : World) (hn : l.length ≤ 1048576)
    (hbd : ∀ p ∈ l, ∀ y ∈ fClue p, -9223372036854775808 ≤ y ∧ y ≤ 9223372036854775807)
    (hcopy0 : ∀ W, Below w.heap.size w W → Calls Try.prog 59 #[.slice sa l.length cap] W (EndCopyG 27 3 fClue l W))
    (hs : ∀ (W : World) (v : Value), RowG 3 fClue W v l → Calls Try.prog 38 #[.agg #[.int .i64 m, v]] W (fun e w' => e = .returned (.tuple #[.bool (decide ((soL m l).length = 1)), .bool (pzB m l)]) ∧ Below W.heap.size W w'))
    (hi : ∀ (W : World) (v : Value), RowG 3 fClue W v l → Calls Try.prog 39 #[.agg #[.int .i64 m, v]] W (fun e w' => e = .returned (.tuple #[.bool (decide ((soL m l).length = 1)), .bool (pzB m l)]) ∧ Below W.heap.size W w')) :
    Calls Try.prog 9 #[.agg #[.int .i64 m, .slice sa l.length cap]] w fun e' w' => e' = .returned (.bool true) ∧ Below w.heap.size w w' := by
  have hpos : ¬ (1048576 - (l.length : Int) < 0) := by omega
  have hsz := fun W => sz_pz m sa l.length cap W (by omega)
  have HZ := Lib.hid hsz
  have HY := Lib.hid hcopy0
  have HBD := Lib.hid hbd
  have HS := Lib.hid hs
  have HI := Lib.hid hi
  clear hsz hcopy0 hbd hs hi
  go_enter Try.func9, Try.ntmps9
  go_wp2_with fail; refine (HZ.out _).mono ?_; rintro e' w1 ⟨rfl, hb1⟩
  rw [if_pos hn]
  have ha1 : Below w.heap.size w w1 := by (repeat (first | with_reducible exact Below.refl _ _ | with_reducible assumption | with_reducible refine balloc ?_ _ | with_reducible refine bdrew ?_ | with_reducible refine below_drewN ?_ _ | with_reducible refine bset ?_ ?_ _ | with_reducible exact Nat.le_refl _ | with_reducible refine bsize ?_ | (dsimp only; refine Nat.le_trans ?_ (Nat.le_add_right _ _)) | with_reducible refine Nat.le_trans ?_ (Nat.le_add_right _ _) | (with_reducible refine bstep ?_ (by assumption))))
  have A : PzAt w.heap.size m (.slice sa l.length cap) w1 := (PzAt.new w m _ _).later hb1
  clear HZ hb1
  obtain ⟨Ap, Aq, Az⟩ := id A
  go_wp2_with fail; refine (toPz_any m _ l _ (fun W hb => HY.out W (bstep (show Below w.heap.size w _ by first | with_reducible assumption | ((repeat (first | with_reducible exact Below.refl _ _ | with_reducible assumption | with_reducible refine balloc ?_ _ | with_reducible refine bdrew ?_ | with_reducible refine below_drewN ?_ _ | with_reducible refine bset ?_ ?_ _ | with_reducible exact Nat.le_refl _ | with_reducible refine bsize ?_ | (dsimp only; refine Nat.le_trans ?_ (Nat.le_add_right _ _)) | with_reducible refine Nat.le_trans ?_ (Nat.le_add_right _ _) | (with_reducible refine bstep ?_ (by assumption)))); done)) hb))).mono ?_; rintro e' w2 ⟨g2, rfl, hown2, hb2⟩
  have f2 : Below w1.heap.size w1 w2 := bstep (show Below w1.heap.size w1 _ by (repeat (first | with_reducible exact Below.refl _ _ | with_reducible assumption | with_reducible refine balloc ?_ _ | with_reducible refine bdrew ?_ | with_reducible refine below_drewN ?_ _ | with_reducible refine bset ?_ ?_ _ | with_reducible exact Nat.le_refl _ | with_reducible refine bsize ?_ | (dsimp only; refine Nat.le_trans ?_ (Nat.le_add_right _ _)) | with_reducible refine Nat.le_trans ?_ (Nat.le_add_right _ _) | (with_reducible refine bstep ?_ (by assumption))))) hb2
  have ha2 := bstep ha1 f2
  clear Ap Aq Az
  replace A := A.later f2
  clear ha1
  obtain ⟨Ap, Aq, Az⟩ := id A
  go_wp2_with fail; refine (HS.out _ _ (rowG_own fClue_len hown2 HBD.out)).mono ?_; rintro e' w3 ⟨rfl, hb3⟩
  have f3 : Below w2.heap.size w2 w3 := bstep (show Below w2.heap.size w2 _ by (repeat (first | with_reducible exact Below.refl _ _ | with_reducible assumption | with_reducible refine balloc ?_ _ | with_reducible refine bdrew ?_ | with_reducible refine below_drewN ?_ _ | with_reducible refine bset ?_ ?_ _ | with_reducible exact Nat.le_refl _ | with_reducible refine bsize ?_ | (dsimp only; refine Nat.le_trans ?_ (Nat.le_add_right _ _)) | with_reducible refine Nat.le_trans ?_ (Nat.le_add_right _ _) | (with_reducible refine bstep ?_ (by assumption))))) hb3
  have ha3 := bstep ha2 f3
  clear Ap Aq Az
  replace A := A.later f3
  clear ha2
  clear hown2 hb2 hb3
  obtain ⟨Ap, Aq, Az⟩ := id A
  go_wp2_with fail; refine (toPz_any m _ l _ (fun W hb => HY.out W (bstep (show Below w.heap.size w _ by first | with_reducible assumption | ((repeat (first | with_reducible exact Below.refl _ _ | with_reducible assumption | with_reducible refine balloc ?_ _ | with_reducible refine bdrew ?_ | with_reducible refine below_drewN ?_ _ | with_reducible refine bset ?_ ?_ _ | with_reducible exact Nat.le_refl _ | with_reducible refine bsize ?_ | (dsimp only; refine Nat.le_trans ?_ (Nat.le_add_right _ _)) | with_reducible refine Nat.le_trans ?_ (Nat.le_add_right _ _) | (with_reducible refine bstep ?_ (by assumption)))); done)) hb))).mono ?_; rintro e' w4 ⟨g4, rfl, hownx, hb4⟩
  have f4 : Below w3.heap.size w3 w4 := bstep (show Below w3.heap.size w3 _ by (repeat (first | with_reducible exact Below.refl _ _ | with_reducible assumption | with_reducible refine balloc ?_ _ | with_reducible refine bdrew ?_ | with_reducible refine below_drewN ?_ _ | with_reducible refine bset ?_ ?_ _ | with_reducible exact Nat.le_refl _ | with_reducible refine bsize ?_ | (dsimp only; refine Nat.le_trans ?_ (Nat.le_add_right _ _)) | with_reducible refine Nat.le_trans ?_ (Nat.le_add_right _ _) | (with_reducible refine bstep ?_ (by assumption))))) hb4
  have ha4 := bstep ha3 f4
  clear Ap Aq Az
  replace A := A.later f4
  clear ha3
  obtain ⟨Ap, Aq, Az⟩ := id A
  go_wp2_with fail; refine (HI.out _ _ (rowG_own fClue_len (hownx.alloc _) HBD.out)).mono ?_; rintro e' w5 ⟨rfl, hb5⟩
  have f5 : Below w4.heap.size w4 w5 := bstep (show Below w4.heap.size w4 _ by (repeat (first | with_reducible exact Below.refl _ _ | with_reducible assumption | with_reducible refine balloc ?_ _ | with_reducible refine bdrew ?_ | with_reducible refine below_drewN ?_ _ | with_reducible refine bset ?_ ?_ _ | with_reducible exact Nat.le_refl _ | with_reducible refine bsize ?_ | (dsimp only; refine Nat.le_trans ?_ (Nat.le_add_right _ _)) | with_reducible refine Nat.le_trans ?_ (Nat.le_add_right _ _) | (with_reducible refine bstep ?_ (by assumption))))) hb5
  have ha5 := bstep ha4 f5
  clear Ap Aq Az
  replace A := A.later f5
  clear ha4
  have X := (PzAt.new w4 m (.slice (some ⟨g4, 0, none⟩) l.length l.length) 41).later hb5
  replace hownx := ownsRow_below hownx f5
  clear hb4 hb5
  obtain ⟨Ap, Aq, Az⟩ := id A
  obtain ⟨Xp, Xq, Xz⟩ := id X
  go_upto_region 10 with fail
  have hS1 := Lib.hid (fun (W : World) (h : Below w5.heap.size w5 W) => (⟨h, keepa h Az Ap, keepa h Az Aq, keepa h Xz Xp, keepa h Xz Xq⟩ : Below w5.heap.size w5 W ∧ W.cell? ⟨w.heap.size, 0, none⟩ = some (.int .i64 m) ∧ W.cell? ⟨w.heap.size, 1, none⟩ = some (.slice sa l.length cap) ∧ W.cell? ⟨w4.heap.size, 0, none⟩ = some (.int .i64 m) ∧ W.cell? ⟨w4.heap.size, 1, none⟩ = some (.slice (some ⟨g4, 0, none⟩) l.length l.length)))
  clear Ap Aq Az Xp Xq Xz
  refine wp_region_noPanic ?_
  refine wp_region_held_drew (S := (fun W => Below w5.heap.size w5 W ∧ W.cell? ⟨w.heap.size, 0, none⟩ = some (.int .i64 m) ∧ W.cell? ⟨w.heap.size, 1, none⟩ = some (.slice sa l.length cap) ∧ W.cell? ⟨w4.heap.size, 0, none⟩ = some (.int .i64 m) ∧ W.cell? ⟨w4.heap.size, 1, none⟩ = some (.slice (some ⟨g4, 0, none⟩) l.length l.length))) (by kernel_rfl) ?_ (fun hHeld0 => ?_)
  · (try dsimp only); (refine hS1.out _ ?_; (first | with_reducible assumption | ((repeat (first | with_reducible exact Below.refl _ _ | with_reducible assumption | with_reducible refine balloc ?_ _ | with_reducible refine bdrew ?_ | with_reducible refine below_drewN ?_ _ | with_reducible refine bset ?_ ?_ _ | with_reducible exact Nat.le_refl _ | with_reducible refine bsize ?_ | (dsimp only; refine Nat.le_trans ?_ (Nat.le_add_right _ _)) | with_reducible refine Nat.le_trans ?_ (Nat.le_add_right _ _) | (with_reducible refine bstep ?_ (by assumption)))); done)))
  (refine wpAnyH_take (i := 0) (oi := { dst := some 35, op := Op.load 41 (Operand.tmp 6), type := 41, pos := "exact.go:3439", after := #[], guard := none }) (v := ?_) rfl (by kernel_rfl) (by kernel_rfl) (by kernel_rfl) (fun _ _ _ h => h) (Or.inl ⟨by rfl, ?_⟩) (by assumption) ?_; rotate_left; (focus (intro w hSw; (try dsimp only at hSw); go_simp; try with_reducible rfl)); (try simp only [Act.put, List.setIfInBounds_toArray, List.set_cons_zero, List.set_cons_succ]))
  (refine wpAnyH_take (i := 1) (oi := { dst := some 36, op := Op.load 34 (Operand.tmp 1), type := 34, pos := "exact.go:3439", after := #[], guard := none }) (v := ?_) rfl (by kernel_rfl) (by kernel_rfl) (by kernel_rfl) (fun _ _ _ h => h) (Or.inl ⟨by rfl, ?_⟩) (by assumption) ?_; rotate_left; (focus (intro w hSw; (try dsimp only at hSw); go_simp; try with_reducible rfl)); (try simp only [Act.put, List.setIfInBounds_toArray, List.set_cons_zero, List.set_cons_succ]))
  (refine wpAnyH_ready (rs := [2]) (by kernel_rfl) (by simp) ?_; refine AllReadyH.cons (o := { dst := some 37, op := Op.call { callee := Callee.value (Operand.func 21), args := #[Operand.tmp 36], argTypes := #[34] }, type := 41, pos := "exact.go:3439", after := #[{ on := 1, ground := Ground.data }], guard := none }) rfl (fun K hK => ?_) AllReadyH.nil; go_simp; (first | (refine (toPz_any m _ l _ (fun W hb => HY.out W (bstep (show Below w.heap.size w _ by first | exact ha5 | exact bdrew ha5 | ((repeat (first | with_reducible exact Below.refl _ _ | with_reducible assumption | with_reducible refine balloc ?_ _ | with_reducible refine bdrew ?_ | with_reducible refine below_drewN ?_ _ | with_reducible refine bset ?_ ?_ _ | with_reducible exact Nat.le_refl _ | with_reducible refine bsize ?_ | (dsimp only; refine Nat.le_trans ?_ (Nat.le_add_right _ _)) | with_reducible refine Nat.le_trans ?_ (Nat.le_add_right _ _) | (with_reducible refine bstep ?_ (by assumption)))); done)) hb))).mono ?_; rintro en w8 ⟨g8, rfl, hown8, hb8⟩; (have f8 : Below w5.heap.size w5 w8 := bstep (by first | with_reducible assumption | ((repeat (first | with_reducible exact Below.refl _ _ | with_reducible assumption | with_reducible refine balloc ?_ _ | with_reducible refine bdrew ?_ | with_reducible refine below_drewN ?_ _ | with_reducible refine bset ?_ ?_ _ | with_reducible exact Nat.le_refl _ | with_reducible refine bsize ?_ | (dsimp only; refine Nat.le_trans ?_ (Nat.le_add_right _ _)) | with_reducible refine Nat.le_trans ?_ (Nat.le_add_right _ _) | (with_reducible refine bstep ?_ (by assumption)))); done)) hb8)) | (refine (eqPz_same m _ _ _ (fun W hb => eqr_clues _ _ _ _ _ W hn (ownsRow_below hownx (bstep (show Below w5.heap.size w5 _ by first | with_reducible assumption | ((repeat (first | with_reducible exact Below.refl _ _ | with_reducible assumption | with_reducible refine balloc ?_ _ | with_reducible refine bdrew ?_ | with_reducible refine below_drewN ?_ _ | with_reducible refine bset ?_ ?_ _ | with_reducible exact Nat.le_refl _ | with_reducible refine bsize ?_ | (dsimp only; refine Nat.le_trans ?_ (Nat.le_add_right _ _)) | with_reducible refine Nat.le_trans ?_ (Nat.le_add_right _ _) | (with_reducible refine bstep ?_ (by assumption)))); done)) hb)) (ownsRow_below hown8 (by first | with_reducible assumption | ((repeat (first | with_reducible exact Below.refl _ _ | with_reducible assumption | with_reducible refine balloc ?_ _ | with_reducible refine bdrew ?_ | with_reducible refine below_drewN ?_ _ | with_reducible refine bset ?_ ?_ _ | with_reducible exact Nat.le_refl _ | with_reducible refine bsize ?_ | (dsimp only; refine Nat.le_trans ?_ (Nat.le_add_right _ _)) | with_reducible refine Nat.le_trans ?_ (Nat.le_add_right _ _) | (with_reducible refine bstep ?_ (by assumption)))); done))))).mono ?_; rintro en w9 ⟨rfl, hb9⟩; (have f9 : Below w5.heap.size w5 w9 := bstep (by first | with_reducible assumption | ((repeat (first | with_reducible exact Below.refl _ _ | with_reducible assumption | with_reducible refine balloc ?_ _ | with_reducible refine bdrew ?_ | with_reducible refine below_drewN ?_ _ | with_reducible refine bset ?_ ?_ _ | with_reducible exact Nat.le_refl _ | with_reducible refine bsize ?_ | (dsimp only; refine Nat.le_trans ?_ (Nat.le_add_right _ _)) | with_reducible refine Nat.le_trans ?_ (Nat.le_add_right _ _) | (with_reducible refine bstep ?_ (by assumption)))); done)) hb9))); (first | refine hK.out _ _ ?_ (fun hHeld1 => ?_) | (go_wp2_with fail; refine hK.out _ _ ?_ (fun hHeld1 => ?_))); (focus ((try dsimp only); (refine hS1.out _ ?_; (first | with_reducible assumption | ((repeat (first | with_reducible exact Below.refl _ _ | with_reducible assumption | with_reducible refine balloc ?_ _ | with_reducible refine bdrew ?_ | with_reducible refine below_drewN ?_ _ | with_reducible refine bset ?_ ?_ _ | with_reducible exact Nat.le_refl _ | with_reducible refine bsize ?_ | (dsimp only; refine Nat.le_trans ?_ (Nat.le_add_right _ _)) | with_reducible refine Nat.le_trans ?_ (Nat.le_add_right _ _) | (with_reducible refine bstep ?_ (by assumption)))); done))))); clear hK K; (try clear hHeld0); (try simp only [Act.put, List.setIfInBounds_toArray, List.set_cons_zero, List.set_cons_succ]))
  (refine wpAnyH_ready (rs := [3]) (by kernel_rfl) (by simp) ?_; refine AllReadyH.cons (o := { dst := some 38, op := Op.call { callee := Callee.value (Operand.func 24), args := #[Operand.tmp 35, Operand.tmp 37], argTypes := #[41, 41] }, type := 4, pos := "exact.go:3439", after := #[{ on := 0, ground := Ground.data }, { on := 2, ground := Ground.data }, { on := 2, ground := Ground.chain }], guard := none }) rfl (fun K hK => ?_) AllReadyH.nil; go_simp; (first | (refine (toPz_any m _ l _ (fun W hb => HY.out W (bstep (show Below w.heap.size w _ by first | exact ha5 | exact bdrew ha5 | ((repeat (first | with_reducible exact Below.refl _ _ | with_reducible assumption | with_reducible refine balloc ?_ _ | with_reducible refine bdrew ?_ | with_reducible refine below_drewN ?_ _ | with_reducible refine bset ?_ ?_ _ | with_reducible exact Nat.le_refl _ | with_reducible refine bsize ?_ | (dsimp only; refine Nat.le_trans ?_ (Nat.le_add_right _ _)) | with_reducible refine Nat.le_trans ?_ (Nat.le_add_right _ _) | (with_reducible refine bstep ?_ (by assumption)))); done)) hb))).mono ?_; rintro en w8 ⟨g8, rfl, hown8, hb8⟩; (have f8 : Below w5.heap.size w5 w8 := bstep (by first | with_reducible assumption | ((repeat (first | with_reducible exact Below.refl _ _ | with_reducible assumption | with_reducible refine balloc ?_ _ | with_reducible refine bdrew ?_ | with_reducible refine below_drewN ?_ _ | with_reducible refine bset ?_ ?_ _ | with_reducible exact Nat.le_refl _ | with_reducible refine bsize ?_ | (dsimp only; refine Nat.le_trans ?_ (Nat.le_add_right _ _)) | with_reducible refine Nat.le_trans ?_ (Nat.le_add_right _ _) | (with_reducible refine bstep ?_ (by assumption)))); done)) hb8)) | (refine (eqPz_same m _ _ _ (fun W hb => eqr_clues _ _ _ _ _ W hn (ownsRow_below hownx (bstep (show Below w5.heap.size w5 _ by first | with_reducible assumption | ((repeat (first | with_reducible exact Below.refl _ _ | with_reducible assumption | with_reducible refine balloc ?_ _ | with_reducible refine bdrew ?_ | with_reducible refine below_drewN ?_ _ | with_reducible refine bset ?_ ?_ _ | with_reducible exact Nat.le_refl _ | with_reducible refine bsize ?_ | (dsimp only; refine Nat.le_trans ?_ (Nat.le_add_right _ _)) | with_reducible refine Nat.le_trans ?_ (Nat.le_add_right _ _) | (with_reducible refine bstep ?_ (by assumption)))); done)) hb)) (ownsRow_below hown8 (by first | with_reducible assumption | ((repeat (first | with_reducible exact Below.refl _ _ | with_reducible assumption | with_reducible refine balloc ?_ _ | with_reducible refine bdrew ?_ | with_reducible refine below_drewN ?_ _ | with_reducible refine bset ?_ ?_ _ | with_reducible exact Nat.le_refl _ | with_reducible refine bsize ?_ | (dsimp only; refine Nat.le_trans ?_ (Nat.le_add_right _ _)) | with_reducible refine Nat.le_trans ?_ (Nat.le_add_right _ _) | (with_reducible refine bstep ?_ (by assumption)))); done))))).mono ?_; rintro en w9 ⟨rfl, hb9⟩; (have f9 : Below w5.heap.size w5 w9 := bstep (by first | with_reducible assumption | ((repeat (first | with_reducible exact Below.refl _ _ | with_reducible assumption | with_reducible refine balloc ?_ _ | with_reducible refine bdrew ?_ | with_reducible refine below_drewN ?_ _ | with_reducible refine bset ?_ ?_ _ | with_reducible exact Nat.le_refl _ | with_reducible refine bsize ?_ | (dsimp only; refine Nat.le_trans ?_ (Nat.le_add_right _ _)) | with_reducible refine Nat.le_trans ?_ (Nat.le_add_right _ _) | (with_reducible refine bstep ?_ (by assumption)))); done)) hb9))); (first | refine hK.out _ _ ?_ (fun hHeld2 => ?_) | (go_wp2_with fail; refine hK.out _ _ ?_ (fun hHeld2 => ?_))); (focus ((try dsimp only); (refine hS1.out _ ?_; (first | with_reducible assumption | ((repeat (first | with_reducible exact Below.refl _ _ | with_reducible assumption | with_reducible refine balloc ?_ _ | with_reducible refine bdrew ?_ | with_reducible refine below_drewN ?_ _ | with_reducible refine bset ?_ ?_ _ | with_reducible exact Nat.le_refl _ | with_reducible refine bsize ?_ | (dsimp only; refine Nat.le_trans ?_ (Nat.le_add_right _ _)) | with_reducible refine Nat.le_trans ?_ (Nat.le_add_right _ _) | (with_reducible refine bstep ?_ (by assumption)))); done))))); clear hK K; (try clear hHeld1); (try simp only [Act.put, List.setIfInBounds_toArray, List.set_cons_zero, List.set_cons_succ]))
  (refine wpAnyH_take (i := 4) (oi := { dst := some 39, op := Op.unOp UnOp.not 4 (Operand.tmp 38), type := 4, pos := "exact.go:3439", after := #[{ on := 3, ground := Ground.data }], guard := none }) (v := ?_) rfl (by kernel_rfl) (by kernel_rfl) (by kernel_rfl) (fun _ _ _ h => h) (Or.inl ⟨by rfl, ?_⟩) (by assumption) ?_; rotate_left; (focus (intro w hSw; (try dsimp only at hSw); go_simp; try with_reducible rfl)); (try simp only [Act.put, List.setIfInBounds_toArray, List.set_cons_zero, List.set_cons_succ]))
  refine wpAnyH_done (by kernel_rfl) ?_ _
  (try refine NoPanic.normal ?_)
  have ha9 := bstep ha5 f9
  go_wp2
  go_ret
  exact ⟨rfl, ha9⟩

theorem isSolved_walk_long (m : Int) (sa : Option Addr) (k cap : Nat) (w : World) (hn : 1048576 < k) (hn2 : k ≤ 9223372036854775807) :
    Calls Try.prog 9 #[.agg #[.int .i64 m, .slice sa k cap]] w fun e' w' => e' = .returned (.bool true) ∧ Below w.heap.size w w' := by
  have hsz := fun W => sz_pz m sa k cap W hn2
  have HS := Lib.hid hsz
  clear hsz
  go_enter Try.func9, Try.ntmps9
  go_wp2_with fail; refine (HS.out _).mono ?_; rintro e' w1 ⟨rfl, hb1⟩
  rw [if_neg (by omega)]
  have ha1 : Below w.heap.size w w1 := by (repeat (first | with_reducible exact Below.refl _ _ | with_reducible assumption | with_reducible refine balloc ?_ _ | with_reducible refine bdrew ?_ | with_reducible refine below_drewN ?_ _ | with_reducible refine bset ?_ ?_ _ | with_reducible exact Nat.le_refl _ | with_reducible refine bsize ?_ | (dsimp only; refine Nat.le_trans ?_ (Nat.le_add_right _ _)) | with_reducible refine Nat.le_trans ?_ (Nat.le_add_right _ _) | (with_reducible refine bstep ?_ (by assumption))))
  go_wp2
  go_ret
  exact ⟨rfl, ha1⟩

/-- The law at every puzzle. -/
theorem isSolved_walk (m : Int) (bm : (-9223372036854775808 ≤ m ∧ m ≤ 9223372036854775807)) (v : Value) (w0 : World) (h : AnyG 3 fClue w0 v) (w : World) (ew : w0 = w := by rfl) :
    Calls Try.prog 9 #[.agg #[.int .i64 m, v]] w fun e' w' => e' = .returned (.bool true) ∧ Below w.heap.size w w' := by
  subst ew
  rcases h with rfl | ⟨ad, cap, l, rfl, hL⟩
  · exact isSolved_walk_of m bm none 0 ([] : List ClueV) w0 (by simp) (by simp) (fun W _ => to_clues_nil W) (fun W v h => isSolved_spec m bm v [] W h) (fun W v h => isSolved_impl m bm v [] W h)
  · by_cases hn : l.length ≤ 1048576
    · have s1 : ∀ (W : World) (v : Value), RowG 3 fClue W v l → _ := fun W v h => isSolved_spec m bm v l W h
      have s2 : ∀ (W : World) (v : Value), RowG 3 fClue W v l → _ := fun W v h => isSolved_impl m bm v l W h
      have s0 := fun W hb => to_clues_some ad cap l W (liesG_below hL hb) hn
      refine isSolved_walk_of m bm (some ad) cap l w0 hn hL.hbd s0 ?_ ?_
      · exact s1
      · exact s2
    · exact isSolved_walk_long _ _ _ _ _ (by omega) (by have := hL.hlc; have := hL.hcap; omega)
end Go.Proofs.Ytiafmojmanhdoaa
