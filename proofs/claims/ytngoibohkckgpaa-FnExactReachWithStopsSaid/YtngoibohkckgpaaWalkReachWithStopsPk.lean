/- The walk of the law FnExactReachWithStops: for every road (also what is none) and every number of stops the program answers as the model, and the list stays as it was. No condition. -/
import Derived.Test.YtngoibohkckgpaaRoadS
import Derived.Test.YtngoibohkckgpaaPkH6a
import Derived.Deep.RegionHeld3
import Derived.Deep.DeepCutAuto
namespace Go.Proofs.Ytngoibohkckgpaa
open Go.ChangeShapes Go.WideShapes Go.ChangeAt Go.RowKit Go.Joins
set_option maxRecDepth 100000
set_option linter.unusedVariables false
set_option linter.unusedSimpArgs false

set_option maxHeartbeats 6400000 in
theorem reachWithStops_walk_of (n d : Int) (bn : -9223372036854775808 ≤ n ∧ n ≤ 9223372036854775807) (bd : -9223372036854775808 ≤ d ∧ d ≤ 9223372036854775807) (x : Int) (bx : -9223372036854775808 ≤ x ∧ x ≤ 9223372036854775807) (sa : Option Addr) (cap : Nat) (l : List (Int × Int)) (w : World) (hn : l.length ≤ 1048576)
    (hbd : ∀ p ∈ l, ∀ y ∈ fAmt p, -9223372036854775808 ≤ y ∧ y ≤ 9223372036854775807)
    (hcopy0 : ∀ W, Below w.heap.size w W → Calls Try.prog 36 #[.slice sa l.length cap] W (EndCopyG 31 2 fAmt l W))
    (hs : ∀ (W : World) (v : Value), RowG 2 fAmt W v l → Calls Try.prog 18 #[.agg #[.int .i64 n, .int .i64 d, v], .int .i64 x] W (fun e w' => e = .returned (.tuple #[.agg #[.int .i64 ((rcA n d l x).1), .int .i64 ((rcA n d l x).2)], .bool (rcK n d l x)]) ∧ Below W.heap.size W w'))
    (hi : ∀ (W : World) (v : Value), RowG 2 fAmt W v l → Calls Try.prog 19 #[.agg #[.int .i64 n, .int .i64 d, v], .int .i64 x] W (fun e w' => e = .returned (.tuple #[.agg #[.int .i64 ((rcA n d l x).1), .int .i64 ((rcA n d l x).2)], .bool (rcK n d l x)]) ∧ Below W.heap.size W w')) :
    Calls Try.prog 4 #[.agg #[.int .i64 n, .int .i64 d, .slice sa l.length cap], .int .i64 x] w fun e' w' => e' = .returned (.bool true) ∧ Below w.heap.size w w' := by
  have hpos : ¬ (1048576 - (l.length : Int) < 0) := by omega
  have hsz := fun W => sz_road n d sa l.length cap W (by omega)
  have HZ := Lib.hid hsz
  have HY := Lib.hid hcopy0
  have HBD := Lib.hid hbd
  have HS := Lib.hid hs
  have HI := Lib.hid hi
  clear hsz hcopy0 hbd hs hi
  go_enter Try.func4, Try.ntmps4
  go_wp2_with fail; refine (HZ.out _).mono ?_; rintro e' w1 ⟨rfl, hb1⟩
  rw [if_pos hn]
  have ha1 : Below w.heap.size w w1 := by (repeat (first | with_reducible exact Below.refl _ _ | with_reducible assumption | with_reducible refine balloc ?_ _ | with_reducible refine bdrew ?_ | with_reducible refine below_drewN ?_ _ | with_reducible refine bset ?_ ?_ _ | with_reducible exact Nat.le_refl _ | with_reducible refine bsize ?_ | (dsimp only; refine Nat.le_trans ?_ (Nat.le_add_right _ _)) | with_reducible refine Nat.le_trans ?_ (Nat.le_add_right _ _) | (with_reducible refine bstep ?_ (by assumption))))
  have A1 : RdAt w.heap.size n d (.slice sa l.length cap) w1 := (RdAt.new w n d _ _).later hb1
  obtain ⟨a0, a1, a2, az⟩ := id A1
  clear HZ hb1
  go_wp2_with fail; refine (toRoad_any n d _ l _ (fun W hb => HY.out W (bstep ha1 hb))).mono ?_; rintro e' w2 ⟨g2, rfl, hown2, hb2⟩
  have ha2 := bstep ha1 hb2
  have A2 := A1.later hb2
  clear a0 a1 a2 az A1 hb2 ha1
  obtain ⟨a0, a1, a2, az⟩ := id A2
  go_wp2_with fail; refine (HS.out _ _ (rowG_own fAmt_len hown2 HBD.out)).mono ?_; rintro e' w3 ⟨rfl, hb3⟩
  have ha3 := bstep ha2 hb3
  have A3 := A2.later hb3
  clear a0 a1 a2 az A2 hb3 ha2 hown2
  obtain ⟨a0, a1, a2, az⟩ := id A3
  go_wp2_with fail; refine (toRoad_any n d _ l _ (fun W hb => HY.out W (bstep (by (repeat (first | with_reducible exact Below.refl _ _ | with_reducible assumption | with_reducible refine balloc ?_ _ | with_reducible refine bdrew ?_ | with_reducible refine below_drewN ?_ _ | with_reducible refine bset ?_ ?_ _ | with_reducible exact Nat.le_refl _ | with_reducible refine bsize ?_ | (dsimp only; refine Nat.le_trans ?_ (Nat.le_add_right _ _)) | with_reducible refine Nat.le_trans ?_ (Nat.le_add_right _ _) | (with_reducible refine bstep ?_ (by assumption))))) hb))).mono ?_; rintro e' w4 ⟨g4, rfl, hown4, hb4⟩
  have f4 : Below w3.heap.size w3 w4 := bstep (show Below w3.heap.size w3 _ by (repeat (first | with_reducible exact Below.refl _ _ | with_reducible assumption | with_reducible refine balloc ?_ _ | with_reducible refine bdrew ?_ | with_reducible refine below_drewN ?_ _ | with_reducible refine bset ?_ ?_ _ | with_reducible exact Nat.le_refl _ | with_reducible refine bsize ?_ | (dsimp only; refine Nat.le_trans ?_ (Nat.le_add_right _ _)) | with_reducible refine Nat.le_trans ?_ (Nat.le_add_right _ _) | (with_reducible refine bstep ?_ (by assumption))))) hb4
  have ha4 := bstep ha3 f4
  have r0 : w4.cell? ⟨w3.heap.size, 0, none⟩ = some (.int .i64 ((rcA n d l x).1)) := (hb4.cell (p := ⟨w3.heap.size, 0, none⟩) (by simp)).trans (by simp [go_sem])
  have r1 : w4.cell? ⟨w3.heap.size, 1, none⟩ = some (.int .i64 ((rcA n d l x).2)) := (hb4.cell (p := ⟨w3.heap.size, 1, none⟩) (by simp)).trans (by simp [go_sem])
  have rz : w3.heap.size < w4.heap.size := Nat.lt_of_lt_of_le (by simp) hb4.size
  have A4 := A3.later f4
  clear a0 a1 a2 az A3 hb4 f4
  obtain ⟨a0, a1, a2, az⟩ := id A4
  go_wp2_with fail; refine (HI.out _ _ (rowG_own fAmt_len (hown4.alloc _) HBD.out)).mono ?_; rintro e' w5 ⟨rfl, hb5⟩
  have f5 : Below w4.heap.size w4 w5 := bstep (show Below w4.heap.size w4 _ by (repeat (first | with_reducible exact Below.refl _ _ | with_reducible assumption | with_reducible refine balloc ?_ _ | with_reducible refine bdrew ?_ | with_reducible refine below_drewN ?_ _ | with_reducible refine bset ?_ ?_ _ | with_reducible exact Nat.le_refl _ | with_reducible refine bsize ?_ | (dsimp only; refine Nat.le_trans ?_ (Nat.le_add_right _ _)) | with_reducible refine Nat.le_trans ?_ (Nat.le_add_right _ _) | (with_reducible refine bstep ?_ (by assumption))))) hb5
  have ha5 := bstep ha4 f5
  have A5 := A4.later f5
  have X5 := (RdAt.new w4 n d (.slice (some ⟨g4, 0, none⟩) l.length l.length) 34).later hb5
  have hownx := ownsRow_below (hown4.alloc (.cells #[.int .i64 n, .int .i64 d, .slice (some ⟨g4, 0, none⟩) l.length l.length] 34)) hb5
  clear a0 a1 a2 az
  replace r0 := keepa f5 rz r0
  replace r1 := keepa f5 rz r1
  replace rz := Nat.lt_of_lt_of_le rz f5.size
  clear A4 hb5 hown4 ha4 f5
  obtain ⟨a0, a1, a2, az⟩ := id A5
  obtain ⟨x0, x1, x2, xz⟩ := id X5
  go_wp2_with fail; refine (eq_same _ _ _).mono ?_; rintro e' w6 ⟨rfl, hb6⟩
  have f6 : Below w5.heap.size w5 w6 := bstep (show Below w5.heap.size w5 _ by (repeat (first | with_reducible exact Below.refl _ _ | with_reducible assumption | with_reducible refine balloc ?_ _ | with_reducible refine bdrew ?_ | with_reducible refine below_drewN ?_ _ | with_reducible refine bset ?_ ?_ _ | with_reducible exact Nat.le_refl _ | with_reducible refine bsize ?_ | (dsimp only; refine Nat.le_trans ?_ (Nat.le_add_right _ _)) | with_reducible refine Nat.le_trans ?_ (Nat.le_add_right _ _) | (with_reducible refine bstep ?_ (by assumption))))) hb6
  have ha6 := bstep ha5 f6
  have A6 := A5.later f6
  have X6 := X5.later f6
  replace hownx := ownsRow_below hownx f6
  clear a0 a1 a2 az x0 x1 x2 xz A5 X5 hb6 ha5 f6 r0 r1 rz
  obtain ⟨a0, a1, a2, az⟩ := id A6
  obtain ⟨x0, x1, x2, xz⟩ := id X6
  go_upto_region 10 with fail
  have hS1 := Lib.hid (fun (W : World) (h : Below w6.heap.size w6 W) => (⟨h, keepa h az a0, keepa h az a1, keepa h az a2, keepa h xz x0, keepa h xz x1, keepa h xz x2⟩ : Below w6.heap.size w6 W ∧ W.cell? ⟨w.heap.size, 0, none⟩ = some (.int .i64 n) ∧ W.cell? ⟨w.heap.size, 1, none⟩ = some (.int .i64 d) ∧ W.cell? ⟨w.heap.size, 2, none⟩ = some (.slice sa l.length cap) ∧ W.cell? ⟨w4.heap.size, 0, none⟩ = some (.int .i64 n) ∧ W.cell? ⟨w4.heap.size, 1, none⟩ = some (.int .i64 d) ∧ W.cell? ⟨w4.heap.size, 2, none⟩ = some (.slice (some ⟨g4, 0, none⟩) l.length l.length)))
  clear a0 a1 a2 az x0 x1 x2 xz
  refine wp_region_noPanic ?_
  refine wp_region_held_drew (S := (fun W => Below w6.heap.size w6 W ∧ W.cell? ⟨w.heap.size, 0, none⟩ = some (.int .i64 n) ∧ W.cell? ⟨w.heap.size, 1, none⟩ = some (.int .i64 d) ∧ W.cell? ⟨w.heap.size, 2, none⟩ = some (.slice sa l.length cap) ∧ W.cell? ⟨w4.heap.size, 0, none⟩ = some (.int .i64 n) ∧ W.cell? ⟨w4.heap.size, 1, none⟩ = some (.int .i64 d) ∧ W.cell? ⟨w4.heap.size, 2, none⟩ = some (.slice (some ⟨g4, 0, none⟩) l.length l.length))) (by kernel_rfl) ?_ (fun hHeld0 => ?_)
  · (try dsimp only); (refine hS1.out _ ?_; (first | with_reducible assumption | ((repeat (first | with_reducible exact Below.refl _ _ | with_reducible assumption | with_reducible refine balloc ?_ _ | with_reducible refine bdrew ?_ | with_reducible refine below_drewN ?_ _ | with_reducible refine bset ?_ ?_ _ | with_reducible exact Nat.le_refl _ | with_reducible refine bsize ?_ | (dsimp only; refine Nat.le_trans ?_ (Nat.le_add_right _ _)) | with_reducible refine Nat.le_trans ?_ (Nat.le_add_right _ _) | (with_reducible refine bstep ?_ (by assumption)))); done)))
  (refine wpAnyH_take (i := 0) (oi := { dst := some 40, op := Op.load 34 (Operand.tmp 8), type := 34, pos := "exact.go:2512", after := #[], guard := none }) (v := ?_) rfl (by kernel_rfl) (by kernel_rfl) (by kernel_rfl) (fun _ _ _ h => h) (Or.inl ⟨by rfl, ?_⟩) (by assumption) ?_; rotate_left; (focus (intro w hSw; (try dsimp only at hSw); go_simp; try with_reducible rfl)); (try simp only [Act.put, List.setIfInBounds_toArray, List.set_cons_zero, List.set_cons_succ]))
  (refine wpAnyH_take (i := 1) (oi := { dst := some 41, op := Op.load 26 (Operand.tmp 2), type := 26, pos := "exact.go:2512", after := #[], guard := none }) (v := ?_) rfl (by kernel_rfl) (by kernel_rfl) (by kernel_rfl) (fun _ _ _ h => h) (Or.inl ⟨by rfl, ?_⟩) (by assumption) ?_; rotate_left; (focus (intro w hSw; (try dsimp only at hSw); go_simp; try with_reducible rfl)); (try simp only [Act.put, List.setIfInBounds_toArray, List.set_cons_zero, List.set_cons_succ]))
  (refine wpAnyH_ready (rs := [2]) (by kernel_rfl) (by simp) ?_; refine AllReadyH.cons (o := { dst := some 42, op := Op.call { callee := Callee.value (Operand.func 11), args := #[Operand.tmp 41], argTypes := #[26] }, type := 34, pos := "exact.go:2512", after := #[{ on := 1, ground := Ground.data }], guard := none }) rfl (fun K hK => ?_) AllReadyH.nil; go_simp; (first | (refine (toRoad_any n d _ l _ (fun W hb => HY.out W (bstep (show Below w.heap.size w _ by first | exact ha6 | exact bdrew ha6 | ((repeat (first | with_reducible exact Below.refl _ _ | with_reducible assumption | with_reducible refine balloc ?_ _ | with_reducible refine bdrew ?_ | with_reducible refine below_drewN ?_ _ | with_reducible refine bset ?_ ?_ _ | with_reducible exact Nat.le_refl _ | with_reducible refine bsize ?_ | (dsimp only; refine Nat.le_trans ?_ (Nat.le_add_right _ _)) | with_reducible refine Nat.le_trans ?_ (Nat.le_add_right _ _) | (with_reducible refine bstep ?_ (by assumption)))); done)) hb))).mono ?_; rintro en w8 ⟨g8, rfl, hown8, hb8⟩; (have f8 : Below w6.heap.size w6 w8 := bstep (by first | with_reducible assumption | ((repeat (first | with_reducible exact Below.refl _ _ | with_reducible assumption | with_reducible refine balloc ?_ _ | with_reducible refine bdrew ?_ | with_reducible refine below_drewN ?_ _ | with_reducible refine bset ?_ ?_ _ | with_reducible exact Nat.le_refl _ | with_reducible refine bsize ?_ | (dsimp only; refine Nat.le_trans ?_ (Nat.le_add_right _ _)) | with_reducible refine Nat.le_trans ?_ (Nat.le_add_right _ _) | (with_reducible refine bstep ?_ (by assumption)))); done)) hb8)) | (refine (eqRoad_same n d _ _ _ (fun W hb => eqr_amts _ _ _ _ _ W hn (ownsRow_below hownx (bstep (show Below w6.heap.size w6 _ by first | with_reducible assumption | ((repeat (first | with_reducible exact Below.refl _ _ | with_reducible assumption | with_reducible refine balloc ?_ _ | with_reducible refine bdrew ?_ | with_reducible refine below_drewN ?_ _ | with_reducible refine bset ?_ ?_ _ | with_reducible exact Nat.le_refl _ | with_reducible refine bsize ?_ | (dsimp only; refine Nat.le_trans ?_ (Nat.le_add_right _ _)) | with_reducible refine Nat.le_trans ?_ (Nat.le_add_right _ _) | (with_reducible refine bstep ?_ (by assumption)))); done)) hb)) (ownsRow_below hown8 (by first | with_reducible assumption | ((repeat (first | with_reducible exact Below.refl _ _ | with_reducible assumption | with_reducible refine balloc ?_ _ | with_reducible refine bdrew ?_ | with_reducible refine below_drewN ?_ _ | with_reducible refine bset ?_ ?_ _ | with_reducible exact Nat.le_refl _ | with_reducible refine bsize ?_ | (dsimp only; refine Nat.le_trans ?_ (Nat.le_add_right _ _)) | with_reducible refine Nat.le_trans ?_ (Nat.le_add_right _ _) | (with_reducible refine bstep ?_ (by assumption)))); done))))).mono ?_; rintro en w9 ⟨rfl, hb9⟩; (have f9 : Below w6.heap.size w6 w9 := bstep (by first | with_reducible assumption | ((repeat (first | with_reducible exact Below.refl _ _ | with_reducible assumption | with_reducible refine balloc ?_ _ | with_reducible refine bdrew ?_ | with_reducible refine below_drewN ?_ _ | with_reducible refine bset ?_ ?_ _ | with_reducible exact Nat.le_refl _ | with_reducible refine bsize ?_ | (dsimp only; refine Nat.le_trans ?_ (Nat.le_add_right _ _)) | with_reducible refine Nat.le_trans ?_ (Nat.le_add_right _ _) | (with_reducible refine bstep ?_ (by assumption)))); done)) hb9))); (first | refine hK.out _ _ ?_ (fun hHeld1 => ?_) | (go_wp2_with fail; refine hK.out _ _ ?_ (fun hHeld1 => ?_))); (focus ((try dsimp only); (refine hS1.out _ ?_; (first | with_reducible assumption | ((repeat (first | with_reducible exact Below.refl _ _ | with_reducible assumption | with_reducible refine balloc ?_ _ | with_reducible refine bdrew ?_ | with_reducible refine below_drewN ?_ _ | with_reducible refine bset ?_ ?_ _ | with_reducible exact Nat.le_refl _ | with_reducible refine bsize ?_ | (dsimp only; refine Nat.le_trans ?_ (Nat.le_add_right _ _)) | with_reducible refine Nat.le_trans ?_ (Nat.le_add_right _ _) | (with_reducible refine bstep ?_ (by assumption)))); done))))); clear hK K; (try clear hHeld0); (try simp only [Act.put, List.setIfInBounds_toArray, List.set_cons_zero, List.set_cons_succ]))
  (refine wpAnyH_ready (rs := [3]) (by kernel_rfl) (by simp) ?_; refine AllReadyH.cons (o := { dst := some 43, op := Op.call { callee := Callee.value (Operand.func 14), args := #[Operand.tmp 40, Operand.tmp 42], argTypes := #[34, 34] }, type := 4, pos := "exact.go:2512", after := #[{ on := 0, ground := Ground.data }, { on := 2, ground := Ground.data }, { on := 2, ground := Ground.chain }], guard := none }) rfl (fun K hK => ?_) AllReadyH.nil; go_simp; (first | (refine (toRoad_any n d _ l _ (fun W hb => HY.out W (bstep (show Below w.heap.size w _ by first | exact ha6 | exact bdrew ha6 | ((repeat (first | with_reducible exact Below.refl _ _ | with_reducible assumption | with_reducible refine balloc ?_ _ | with_reducible refine bdrew ?_ | with_reducible refine below_drewN ?_ _ | with_reducible refine bset ?_ ?_ _ | with_reducible exact Nat.le_refl _ | with_reducible refine bsize ?_ | (dsimp only; refine Nat.le_trans ?_ (Nat.le_add_right _ _)) | with_reducible refine Nat.le_trans ?_ (Nat.le_add_right _ _) | (with_reducible refine bstep ?_ (by assumption)))); done)) hb))).mono ?_; rintro en w8 ⟨g8, rfl, hown8, hb8⟩; (have f8 : Below w6.heap.size w6 w8 := bstep (by first | with_reducible assumption | ((repeat (first | with_reducible exact Below.refl _ _ | with_reducible assumption | with_reducible refine balloc ?_ _ | with_reducible refine bdrew ?_ | with_reducible refine below_drewN ?_ _ | with_reducible refine bset ?_ ?_ _ | with_reducible exact Nat.le_refl _ | with_reducible refine bsize ?_ | (dsimp only; refine Nat.le_trans ?_ (Nat.le_add_right _ _)) | with_reducible refine Nat.le_trans ?_ (Nat.le_add_right _ _) | (with_reducible refine bstep ?_ (by assumption)))); done)) hb8)) | (refine (eqRoad_same n d _ _ _ (fun W hb => eqr_amts _ _ _ _ _ W hn (ownsRow_below hownx (bstep (show Below w6.heap.size w6 _ by first | with_reducible assumption | ((repeat (first | with_reducible exact Below.refl _ _ | with_reducible assumption | with_reducible refine balloc ?_ _ | with_reducible refine bdrew ?_ | with_reducible refine below_drewN ?_ _ | with_reducible refine bset ?_ ?_ _ | with_reducible exact Nat.le_refl _ | with_reducible refine bsize ?_ | (dsimp only; refine Nat.le_trans ?_ (Nat.le_add_right _ _)) | with_reducible refine Nat.le_trans ?_ (Nat.le_add_right _ _) | (with_reducible refine bstep ?_ (by assumption)))); done)) hb)) (ownsRow_below hown8 (by first | with_reducible assumption | ((repeat (first | with_reducible exact Below.refl _ _ | with_reducible assumption | with_reducible refine balloc ?_ _ | with_reducible refine bdrew ?_ | with_reducible refine below_drewN ?_ _ | with_reducible refine bset ?_ ?_ _ | with_reducible exact Nat.le_refl _ | with_reducible refine bsize ?_ | (dsimp only; refine Nat.le_trans ?_ (Nat.le_add_right _ _)) | with_reducible refine Nat.le_trans ?_ (Nat.le_add_right _ _) | (with_reducible refine bstep ?_ (by assumption)))); done))))).mono ?_; rintro en w9 ⟨rfl, hb9⟩; (have f9 : Below w6.heap.size w6 w9 := bstep (by first | with_reducible assumption | ((repeat (first | with_reducible exact Below.refl _ _ | with_reducible assumption | with_reducible refine balloc ?_ _ | with_reducible refine bdrew ?_ | with_reducible refine below_drewN ?_ _ | with_reducible refine bset ?_ ?_ _ | with_reducible exact Nat.le_refl _ | with_reducible refine bsize ?_ | (dsimp only; refine Nat.le_trans ?_ (Nat.le_add_right _ _)) | with_reducible refine Nat.le_trans ?_ (Nat.le_add_right _ _) | (with_reducible refine bstep ?_ (by assumption)))); done)) hb9))); (first | refine hK.out _ _ ?_ (fun hHeld2 => ?_) | (go_wp2_with fail; refine hK.out _ _ ?_ (fun hHeld2 => ?_))); (focus ((try dsimp only); (refine hS1.out _ ?_; (first | with_reducible assumption | ((repeat (first | with_reducible exact Below.refl _ _ | with_reducible assumption | with_reducible refine balloc ?_ _ | with_reducible refine bdrew ?_ | with_reducible refine below_drewN ?_ _ | with_reducible refine bset ?_ ?_ _ | with_reducible exact Nat.le_refl _ | with_reducible refine bsize ?_ | (dsimp only; refine Nat.le_trans ?_ (Nat.le_add_right _ _)) | with_reducible refine Nat.le_trans ?_ (Nat.le_add_right _ _) | (with_reducible refine bstep ?_ (by assumption)))); done))))); clear hK K; (try clear hHeld1); (try simp only [Act.put, List.setIfInBounds_toArray, List.set_cons_zero, List.set_cons_succ]))
  (refine wpAnyH_take (i := 4) (oi := { dst := some 44, op := Op.unOp UnOp.not 4 (Operand.tmp 43), type := 4, pos := "exact.go:2512", after := #[{ on := 3, ground := Ground.data }], guard := none }) (v := ?_) rfl (by kernel_rfl) (by kernel_rfl) (by kernel_rfl) (fun _ _ _ h => h) (Or.inl ⟨by rfl, ?_⟩) (by assumption) ?_; rotate_left; (focus (intro w hSw; (try dsimp only at hSw); go_simp; try with_reducible rfl)); (try simp only [Act.put, List.setIfInBounds_toArray, List.set_cons_zero, List.set_cons_succ]))
  refine wpAnyH_done (by kernel_rfl) ?_ _
  (try refine NoPanic.normal ?_)
  have ha9 := bstep ha6 f9
  go_wp2
  go_ret
  exact ⟨rfl, ha9⟩

theorem reachWithStops_walk_long (n d : Int) (x : Int) (bx : -9223372036854775808 ≤ x ∧ x ≤ 9223372036854775807) (sa : Option Addr) (k cap : Nat) (w : World) (hn : 1048576 < k) (hn2 : k ≤ 9223372036854775807) :
    Calls Try.prog 4 #[.agg #[.int .i64 n, .int .i64 d, .slice sa k cap], .int .i64 x] w fun e' w' => e' = .returned (.bool true) ∧ Below w.heap.size w w' := by
  have hsz := fun W => sz_road n d sa k cap W hn2
  have HS := Lib.hid hsz
  clear hsz
  go_enter Try.func4, Try.ntmps4
  go_wp2_with fail; refine (HS.out _).mono ?_; rintro e' w1 ⟨rfl, hb1⟩
  rw [if_neg (by omega)]
  have ha1 : Below w.heap.size w w1 := by (repeat (first | with_reducible exact Below.refl _ _ | with_reducible assumption | with_reducible refine balloc ?_ _ | with_reducible refine bdrew ?_ | with_reducible refine below_drewN ?_ _ | with_reducible refine bset ?_ ?_ _ | with_reducible exact Nat.le_refl _ | with_reducible refine bsize ?_ | (dsimp only; refine Nat.le_trans ?_ (Nat.le_add_right _ _)) | with_reducible refine Nat.le_trans ?_ (Nat.le_add_right _ _) | (with_reducible refine bstep ?_ (by assumption))))
  go_wp2
  go_ret
  exact ⟨rfl, ha1⟩

/-- The law at every road. -/
theorem reachWithStops_walk (n d : Int) (bn : -9223372036854775808 ≤ n ∧ n ≤ 9223372036854775807) (bd : -9223372036854775808 ≤ d ∧ d ≤ 9223372036854775807) (v : Value) (w0 : World) (h : AnyG 2 fAmt w0 v) (x : Int) (bx : -9223372036854775808 ≤ x ∧ x ≤ 9223372036854775807) (w : World) (ew : w0 = w := by rfl) :
    Calls Try.prog 4 #[.agg #[.int .i64 n, .int .i64 d, v], .int .i64 x] w fun e' w' => e' = .returned (.bool true) ∧ Below w.heap.size w w' := by
  subst ew
  rcases h with rfl | ⟨ad, cap, l, rfl, hL⟩
  · exact reachWithStops_walk_of n d bn bd x bx none 0 [] w0 (by simp) (by simp) (fun W _ => to_amts_nil W) (fun W v h => reach_spec n d bn bd x v [] W h) (fun W v h => reach_impl n d bn bd x v [] W h)
  · by_cases hn : l.length ≤ 1048576
    · exact reachWithStops_walk_of n d bn bd x bx (some ad) cap l w0 hn hL.hbd (fun W hb => to_amts_some ad cap l W (liesG_below hL hb) hn) (fun W v h => reach_spec n d bn bd x v l W h) (fun W v h => reach_impl n d bn bd x v l W h)
    · exact reachWithStops_walk_long _ _ x bx _ _ _ _ (by omega) (by have := hL.hlc; have := hL.hcap; omega)
end Go.Proofs.Ytngoibohkckgpaa
