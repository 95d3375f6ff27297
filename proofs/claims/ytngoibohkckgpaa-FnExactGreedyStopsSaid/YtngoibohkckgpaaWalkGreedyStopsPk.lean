/- The walk of the law FnExactGreedyStops: for every road (also what is none) the program answers as the model, the list stays as it was, and the answer owns its memory. No condition. -/
import Derived.Test.YtngoibohkckgpaaRoadS
import Derived.Test.YtngoibohkckgpaaPkG6a
import Derived.Test.YtngoibohkckgpaaOInt
import Derived.Deep.RegionHeld3
import Derived.Deep.DeepCutAuto
namespace Go.Proofs.Ytngoibohkckgpaa
open Go.ChangeShapes Go.WideShapes Go.ChangeAt Go.RowKit Go.Joins
set_option maxRecDepth 100000
set_option linter.unusedVariables false
set_option linter.unusedSimpArgs false

set_option maxHeartbeats 6400000 in
theorem greedyStops_walk_of (n d : Int) (bn : -9223372036854775808 ≤ n ∧ n ≤ 9223372036854775807) (bd : -9223372036854775808 ≤ d ∧ d ≤ 9223372036854775807) (sa : Option Addr) (cap : Nat) (l : List (Int × Int)) (w : World) (hn : l.length ≤ 1048576)
    (hbd : ∀ p ∈ l, ∀ y ∈ fAmt p, -9223372036854775808 ≤ y ∧ y ≤ 9223372036854775807)
    (hcopy0 : ∀ W, Below w.heap.size w W → Calls Try.prog 36 #[.slice sa l.length cap] W (EndCopyG 31 2 fAmt l W))
    (hs : ∀ (W : World) (v : Value), RowG 2 fAmt W v l → Calls Try.prog 10 #[.agg #[.int .i64 n, .int .i64 d, v]] W (AnsG 3 1 fInt (grL n d l) (cgB n d l) W))
    (hi : ∀ (W : World) (v : Value), RowG 2 fAmt W v l → Calls Try.prog 12 #[.agg #[.int .i64 n, .int .i64 d, v]] W (AnsG 3 1 fInt (grL n d l) (cgB n d l) W)) :
    Calls Try.prog 3 #[.agg #[.int .i64 n, .int .i64 d, .slice sa l.length cap]] w fun e' w' => e' = .returned (.bool true) ∧ Below w.heap.size w w' := by
  have hpos : ¬ (1048576 - (l.length : Int) < 0) := by omega
  have hsz := fun W => sz_road n d sa l.length cap W (by omega)
  have HZ := Lib.hid hsz
  have HY := Lib.hid hcopy0
  have HBD := Lib.hid hbd
  have HS := Lib.hid hs
  have HI := Lib.hid hi
  clear hsz hcopy0 hbd hs hi
  have hr2 : (grL n d l).length ≤ 1048576 := grL_len n d l
  have hr3 : (grL n d l).length ≤ 1048576 := grL_len n d l
  generalize (grL n d l) = rl at *
  generalize (cgB n d l) = rb at *
  go_enter Try.func3, Try.ntmps3
  go_wp2_with fail; refine (HZ.out _).mono ?_; rintro e' w1 ⟨rfl, hb1⟩
  rw [if_pos hn]
  have ha1 : Below w.heap.size w w1 := by (repeat (first | with_reducible exact Below.refl _ _ | with_reducible assumption | with_reducible refine balloc ?_ _ | with_reducible refine bdrew ?_ | with_reducible refine below_drewN ?_ _ | with_reducible refine bset ?_ ?_ _ | with_reducible exact Nat.le_refl _ | with_reducible refine bsize ?_ | (dsimp only; refine Nat.le_trans ?_ (Nat.le_add_right _ _)) | with_reducible refine Nat.le_trans ?_ (Nat.le_add_right _ _) | (with_reducible refine bstep ?_ (by assumption))))
  have A1 : RdAt w.heap.size n d (.slice sa l.length cap) w1 := (RdAt.new w n d _ _).later hb1
  obtain ⟨a0, a1, a2, az⟩ := id A1
  clear HZ hb1
  go_wp2_with fail; refine (toRoad_any n d _ l _ (fun W hb => HY.out W (bstep ha1 hb))).mono ?_; rintro e' w2 ⟨g2, rfl, hown2, hb2⟩
  have ha2 := bstep ha1 hb2
  have A2 := A1.later hb2
  clear a0 a1 a2 az A1 hb2 ha1
  obtain ⟨a0, a1, a2, az⟩ := id A2
  go_wp2_with fail; refine (HS.out _ _ (rowG_own fAmt_len hown2 HBD.out)).mono ?_; rintro e' w3 ⟨v3, rfl, hownw, hb3⟩
  obtain ⟨aw, cw, rfl⟩ := owns_shape hownw
  have ha3 := bstep ha2 hb3
  have A3 := A2.later hb3
  clear a0 a1 a2 az A2 hb3 ha2 hown2
  obtain ⟨a0, a1, a2, az⟩ := id A3
  go_wp2_with fail; refine (toRoad_any n d _ l _ (fun W hb => HY.out W (bstep (by (repeat (first | with_reducible exact Below.refl _ _ | with_reducible assumption | with_reducible refine balloc ?_ _ | with_reducible refine bdrew ?_ | with_reducible refine below_drewN ?_ _ | with_reducible refine bset ?_ ?_ _ | with_reducible exact Nat.le_refl _ | with_reducible refine bsize ?_ | (dsimp only; refine Nat.le_trans ?_ (Nat.le_add_right _ _)) | with_reducible refine Nat.le_trans ?_ (Nat.le_add_right _ _) | (with_reducible refine bstep ?_ (by assumption))))) hb))).mono ?_; rintro e' w4 ⟨g4, rfl, hown4, hb4⟩
  have f4 : Below w3.heap.size w3 w4 := bstep (show Below w3.heap.size w3 _ by (repeat (first | with_reducible exact Below.refl _ _ | with_reducible assumption | with_reducible refine balloc ?_ _ | with_reducible refine bdrew ?_ | with_reducible refine below_drewN ?_ _ | with_reducible refine bset ?_ ?_ _ | with_reducible exact Nat.le_refl _ | with_reducible refine bsize ?_ | (dsimp only; refine Nat.le_trans ?_ (Nat.le_add_right _ _)) | with_reducible refine Nat.le_trans ?_ (Nat.le_add_right _ _) | (with_reducible refine bstep ?_ (by assumption))))) hb4
  have ha4 := bstep ha3 f4
  have oxw2 := own_apart' hown4 hownw (Nat.le_refl _)
  have lw3 := ha3.size
  have lz3 : w.heap.size < w3.heap.size := A3.2.2.2
  have lw4 := ha4.size
  replace hownw := ownsRow_below hownw f4
  have A4 := A3.later f4
  clear a0 a1 a2 az A3 hb4 f4
  obtain ⟨a0, a1, a2, az⟩ := id A4
  go_wp2_with fail; refine (HI.out _ _ (rowG_own fAmt_len (hown4.alloc _) HBD.out)).mono ?_; rintro e' w5 ⟨v5, rfl, howng, hb5⟩
  have hownx0 := hown4
  have f5 : Below w4.heap.size w4 w5 := bstep (show Below w4.heap.size w4 _ by (repeat (first | with_reducible exact Below.refl _ _ | with_reducible assumption | with_reducible refine balloc ?_ _ | with_reducible refine bdrew ?_ | with_reducible refine below_drewN ?_ _ | with_reducible refine bset ?_ ?_ _ | with_reducible exact Nat.le_refl _ | with_reducible refine bsize ?_ | (dsimp only; refine Nat.le_trans ?_ (Nat.le_add_right _ _)) | with_reducible refine Nat.le_trans ?_ (Nat.le_add_right _ _) | (with_reducible refine bstep ?_ (by assumption))))) hb5
  have ha5 := bstep ha4 f5
  have A5 := A4.later f5
  have X5 := (RdAt.new w4 n d (.slice (some ⟨g4, 0, none⟩) l.length l.length) 34).later hb5
  have hownx := ownsRow_below (hown4.alloc (.cells #[.int .i64 n, .int .i64 d, .slice (some ⟨g4, 0, none⟩) l.length l.length] 34)) hb5
  clear a0 a1 a2 az
  have ogx := own_apart howng (hown4.alloc (.cells #[.int .i64 n, .int .i64 d, .slice (some ⟨g4, 0, none⟩) l.length l.length] 34)) (Nat.le_refl _)
  have ogx2 := own_apart' howng (hown4.alloc (.cells #[.int .i64 n, .int .i64 d, .slice (some ⟨g4, 0, none⟩) l.length l.length] 34)) (Nat.le_refl _)
  have ogw := own_apart howng (hownw.alloc (.cells #[.int .i64 n, .int .i64 d, .slice (some ⟨g4, 0, none⟩) l.length l.length] 34)) (Nat.le_refl _)
  have ogw2 := own_apart' howng (hownw.alloc (.cells #[.int .i64 n, .int .i64 d, .slice (some ⟨g4, 0, none⟩) l.length l.length] 34)) (Nat.le_refl _)
  replace hownw := ownsRow_below (hownw.alloc (.cells #[.int .i64 n, .int .i64 d, .slice (some ⟨g4, 0, none⟩) l.length l.length] 34)) hb5
  clear A4 hb5 hown4 ha4 f5
  go_wp2_with fail; refine (eqr_ints _ _ _ _ _ _ hr2 howng hownw).mono ?_; rintro e' w6 ⟨rfl, hb6⟩
  have ha6 := bstep ha5 hb6
  have A6 := A5.later hb6
  have X6 := X5.later hb6
  replace hownx := ownsRow_below hownx hb6
  replace hownw := ownsRow_below hownw hb6
  replace howng := ownsRow_below howng hb6
  clear A5 X5 hb6 ha5
  obtain ⟨a0, a1, a2, az⟩ := id A6
  obtain ⟨x0, x1, x2, xz⟩ := id X6
  go_upto_region 10 with fail
  have hS1 := Lib.hid (fun (W : World) (h : Below w6.heap.size w6 W) => (⟨h, keepa h az a0, keepa h az a1, keepa h az a2, keepa h xz x0, keepa h xz x1, keepa h xz x2⟩ : Below w6.heap.size w6 W ∧ W.cell? ⟨w.heap.size, 0, none⟩ = some (.int .i64 n) ∧ W.cell? ⟨w.heap.size, 1, none⟩ = some (.int .i64 d) ∧ W.cell? ⟨w.heap.size, 2, none⟩ = some (.slice sa l.length cap) ∧ W.cell? ⟨w4.heap.size, 0, none⟩ = some (.int .i64 n) ∧ W.cell? ⟨w4.heap.size, 1, none⟩ = some (.int .i64 d) ∧ W.cell? ⟨w4.heap.size, 2, none⟩ = some (.slice (some ⟨g4, 0, none⟩) l.length l.length)))
  clear a0 a1 a2 az x0 x1 x2 xz
  refine wp_region_noPanic ?_
  refine wp_region_held_drew (S := (fun W => Below w6.heap.size w6 W ∧ W.cell? ⟨w.heap.size, 0, none⟩ = some (.int .i64 n) ∧ W.cell? ⟨w.heap.size, 1, none⟩ = some (.int .i64 d) ∧ W.cell? ⟨w.heap.size, 2, none⟩ = some (.slice sa l.length cap) ∧ W.cell? ⟨w4.heap.size, 0, none⟩ = some (.int .i64 n) ∧ W.cell? ⟨w4.heap.size, 1, none⟩ = some (.int .i64 d) ∧ W.cell? ⟨w4.heap.size, 2, none⟩ = some (.slice (some ⟨g4, 0, none⟩) l.length l.length))) (by kernel_rfl) ?_ (fun hHeld0 => ?_)
  · (try dsimp only); (refine hS1.out _ ?_; (first | with_reducible assumption | ((repeat (first | with_reducible exact Below.refl _ _ | with_reducible assumption | with_reducible refine balloc ?_ _ | with_reducible refine bdrew ?_ | with_reducible refine below_drewN ?_ _ | with_reducible refine bset ?_ ?_ _ | with_reducible exact Nat.le_refl _ | with_reducible refine bsize ?_ | (dsimp only; refine Nat.le_trans ?_ (Nat.le_add_right _ _)) | with_reducible refine Nat.le_trans ?_ (Nat.le_add_right _ _) | (with_reducible refine bstep ?_ (by assumption)))); done)))
  (refine wpAnyH_take (i := 0) (oi := { dst := some 41, op := Op.load 34 (Operand.tmp 6), type := 34, pos := "exact.go:2336", after := #[], guard := none }) (v := ?_) rfl (by kernel_rfl) (by kernel_rfl) (by kernel_rfl) (fun _ _ _ h => h) (Or.inl ⟨by rfl, ?_⟩) (by assumption) ?_; rotate_left; (focus (intro w hSw; (try dsimp only at hSw); go_simp; try with_reducible rfl)); (try simp only [Act.put, List.setIfInBounds_toArray, List.set_cons_zero, List.set_cons_succ]))
  (refine wpAnyH_take (i := 1) (oi := { dst := some 42, op := Op.load 26 (Operand.tmp 1), type := 26, pos := "exact.go:2336", after := #[], guard := none }) (v := ?_) rfl (by kernel_rfl) (by kernel_rfl) (by kernel_rfl) (fun _ _ _ h => h) (Or.inl ⟨by rfl, ?_⟩) (by assumption) ?_; rotate_left; (focus (intro w hSw; (try dsimp only at hSw); go_simp; try with_reducible rfl)); (try simp only [Act.put, List.setIfInBounds_toArray, List.set_cons_zero, List.set_cons_succ]))
  (refine wpAnyH_ready (rs := [2]) (by kernel_rfl) (by simp) ?_; refine AllReadyH.cons (o := { dst := some 43, op := Op.call { callee := Callee.value (Operand.func 11), args := #[Operand.tmp 42], argTypes := #[26] }, type := 34, pos := "exact.go:2336", after := #[{ on := 1, ground := Ground.data }], guard := none }) rfl (fun K hK => ?_) AllReadyH.nil; go_simp; (first | (refine (toRoad_any n d _ l _ (fun W hb => HY.out W (bstep (show Below w.heap.size w _ by first | exact ha6 | exact bdrew ha6 | ((repeat (first | with_reducible exact Below.refl _ _ | with_reducible assumption | with_reducible refine balloc ?_ _ | with_reducible refine bdrew ?_ | with_reducible refine below_drewN ?_ _ | with_reducible refine bset ?_ ?_ _ | with_reducible exact Nat.le_refl _ | with_reducible refine bsize ?_ | (dsimp only; refine Nat.le_trans ?_ (Nat.le_add_right _ _)) | with_reducible refine Nat.le_trans ?_ (Nat.le_add_right _ _) | (with_reducible refine bstep ?_ (by assumption)))); done)) hb))).mono ?_; rintro en w8 ⟨g8, rfl, hown8, hb8⟩; (have f8 : Below w6.heap.size w6 w8 := bstep (by first | with_reducible assumption | ((repeat (first | with_reducible exact Below.refl _ _ | with_reducible assumption | with_reducible refine balloc ?_ _ | with_reducible refine bdrew ?_ | with_reducible refine below_drewN ?_ _ | with_reducible refine bset ?_ ?_ _ | with_reducible exact Nat.le_refl _ | with_reducible refine bsize ?_ | (dsimp only; refine Nat.le_trans ?_ (Nat.le_add_right _ _)) | with_reducible refine Nat.le_trans ?_ (Nat.le_add_right _ _) | (with_reducible refine bstep ?_ (by assumption)))); done)) hb8)) | (refine (eqRoad_same n d _ _ _ (fun W hb => eqr_amts _ _ _ _ _ W hn (ownsRow_below hownx (bstep (show Below w6.heap.size w6 _ by first | with_reducible assumption | ((repeat (first | with_reducible exact Below.refl _ _ | with_reducible assumption | with_reducible refine balloc ?_ _ | with_reducible refine bdrew ?_ | with_reducible refine below_drewN ?_ _ | with_reducible refine bset ?_ ?_ _ | with_reducible exact Nat.le_refl _ | with_reducible refine bsize ?_ | (dsimp only; refine Nat.le_trans ?_ (Nat.le_add_right _ _)) | with_reducible refine Nat.le_trans ?_ (Nat.le_add_right _ _) | (with_reducible refine bstep ?_ (by assumption)))); done)) hb)) (ownsRow_below hown8 (by first | with_reducible assumption | ((repeat (first | with_reducible exact Below.refl _ _ | with_reducible assumption | with_reducible refine balloc ?_ _ | with_reducible refine bdrew ?_ | with_reducible refine below_drewN ?_ _ | with_reducible refine bset ?_ ?_ _ | with_reducible exact Nat.le_refl _ | with_reducible refine bsize ?_ | (dsimp only; refine Nat.le_trans ?_ (Nat.le_add_right _ _)) | with_reducible refine Nat.le_trans ?_ (Nat.le_add_right _ _) | (with_reducible refine bstep ?_ (by assumption)))); done))))).mono ?_; rintro en w9 ⟨rfl, hb9⟩; (have f9 : Below w6.heap.size w6 w9 := bstep (by first | with_reducible assumption | ((repeat (first | with_reducible exact Below.refl _ _ | with_reducible assumption | with_reducible refine balloc ?_ _ | with_reducible refine bdrew ?_ | with_reducible refine below_drewN ?_ _ | with_reducible refine bset ?_ ?_ _ | with_reducible exact Nat.le_refl _ | with_reducible refine bsize ?_ | (dsimp only; refine Nat.le_trans ?_ (Nat.le_add_right _ _)) | with_reducible refine Nat.le_trans ?_ (Nat.le_add_right _ _) | (with_reducible refine bstep ?_ (by assumption)))); done)) hb9))); (first | refine hK.out _ _ ?_ (fun hHeld1 => ?_) | (go_wp2_with fail; refine hK.out _ _ ?_ (fun hHeld1 => ?_))); (focus ((try dsimp only); (refine hS1.out _ ?_; (first | with_reducible assumption | ((repeat (first | with_reducible exact Below.refl _ _ | with_reducible assumption | with_reducible refine balloc ?_ _ | with_reducible refine bdrew ?_ | with_reducible refine below_drewN ?_ _ | with_reducible refine bset ?_ ?_ _ | with_reducible exact Nat.le_refl _ | with_reducible refine bsize ?_ | (dsimp only; refine Nat.le_trans ?_ (Nat.le_add_right _ _)) | with_reducible refine Nat.le_trans ?_ (Nat.le_add_right _ _) | (with_reducible refine bstep ?_ (by assumption)))); done))))); clear hK K; (try clear hHeld0); (try simp only [Act.put, List.setIfInBounds_toArray, List.set_cons_zero, List.set_cons_succ]))
  (refine wpAnyH_ready (rs := [3]) (by kernel_rfl) (by simp) ?_; refine AllReadyH.cons (o := { dst := some 44, op := Op.call { callee := Callee.value (Operand.func 14), args := #[Operand.tmp 41, Operand.tmp 43], argTypes := #[34, 34] }, type := 4, pos := "exact.go:2336", after := #[{ on := 0, ground := Ground.data }, { on := 2, ground := Ground.data }, { on := 2, ground := Ground.chain }], guard := none }) rfl (fun K hK => ?_) AllReadyH.nil; go_simp; (first | (refine (toRoad_any n d _ l _ (fun W hb => HY.out W (bstep (show Below w.heap.size w _ by first | exact ha6 | exact bdrew ha6 | ((repeat (first | with_reducible exact Below.refl _ _ | with_reducible assumption | with_reducible refine balloc ?_ _ | with_reducible refine bdrew ?_ | with_reducible refine below_drewN ?_ _ | with_reducible refine bset ?_ ?_ _ | with_reducible exact Nat.le_refl _ | with_reducible refine bsize ?_ | (dsimp only; refine Nat.le_trans ?_ (Nat.le_add_right _ _)) | with_reducible refine Nat.le_trans ?_ (Nat.le_add_right _ _) | (with_reducible refine bstep ?_ (by assumption)))); done)) hb))).mono ?_; rintro en w8 ⟨g8, rfl, hown8, hb8⟩; (have f8 : Below w6.heap.size w6 w8 := bstep (by first | with_reducible assumption | ((repeat (first | with_reducible exact Below.refl _ _ | with_reducible assumption | with_reducible refine balloc ?_ _ | with_reducible refine bdrew ?_ | with_reducible refine below_drewN ?_ _ | with_reducible refine bset ?_ ?_ _ | with_reducible exact Nat.le_refl _ | with_reducible refine bsize ?_ | (dsimp only; refine Nat.le_trans ?_ (Nat.le_add_right _ _)) | with_reducible refine Nat.le_trans ?_ (Nat.le_add_right _ _) | (with_reducible refine bstep ?_ (by assumption)))); done)) hb8)) | (refine (eqRoad_same n d _ _ _ (fun W hb => eqr_amts _ _ _ _ _ W hn (ownsRow_below hownx (bstep (show Below w6.heap.size w6 _ by first | with_reducible assumption | ((repeat (first | with_reducible exact Below.refl _ _ | with_reducible assumption | with_reducible refine balloc ?_ _ | with_reducible refine bdrew ?_ | with_reducible refine below_drewN ?_ _ | with_reducible refine bset ?_ ?_ _ | with_reducible exact Nat.le_refl _ | with_reducible refine bsize ?_ | (dsimp only; refine Nat.le_trans ?_ (Nat.le_add_right _ _)) | with_reducible refine Nat.le_trans ?_ (Nat.le_add_right _ _) | (with_reducible refine bstep ?_ (by assumption)))); done)) hb)) (ownsRow_below hown8 (by first | with_reducible assumption | ((repeat (first | with_reducible exact Below.refl _ _ | with_reducible assumption | with_reducible refine balloc ?_ _ | with_reducible refine bdrew ?_ | with_reducible refine below_drewN ?_ _ | with_reducible refine bset ?_ ?_ _ | with_reducible exact Nat.le_refl _ | with_reducible refine bsize ?_ | (dsimp only; refine Nat.le_trans ?_ (Nat.le_add_right _ _)) | with_reducible refine Nat.le_trans ?_ (Nat.le_add_right _ _) | (with_reducible refine bstep ?_ (by assumption)))); done))))).mono ?_; rintro en w9 ⟨rfl, hb9⟩; (have f9 : Below w6.heap.size w6 w9 := bstep (by first | with_reducible assumption | ((repeat (first | with_reducible exact Below.refl _ _ | with_reducible assumption | with_reducible refine balloc ?_ _ | with_reducible refine bdrew ?_ | with_reducible refine below_drewN ?_ _ | with_reducible refine bset ?_ ?_ _ | with_reducible exact Nat.le_refl _ | with_reducible refine bsize ?_ | (dsimp only; refine Nat.le_trans ?_ (Nat.le_add_right _ _)) | with_reducible refine Nat.le_trans ?_ (Nat.le_add_right _ _) | (with_reducible refine bstep ?_ (by assumption)))); done)) hb9))); (first | refine hK.out _ _ ?_ (fun hHeld2 => ?_) | (go_wp2_with fail; refine hK.out _ _ ?_ (fun hHeld2 => ?_))); (focus ((try dsimp only); (refine hS1.out _ ?_; (first | with_reducible assumption | ((repeat (first | with_reducible exact Below.refl _ _ | with_reducible assumption | with_reducible refine balloc ?_ _ | with_reducible refine bdrew ?_ | with_reducible refine below_drewN ?_ _ | with_reducible refine bset ?_ ?_ _ | with_reducible exact Nat.le_refl _ | with_reducible refine bsize ?_ | (dsimp only; refine Nat.le_trans ?_ (Nat.le_add_right _ _)) | with_reducible refine Nat.le_trans ?_ (Nat.le_add_right _ _) | (with_reducible refine bstep ?_ (by assumption)))); done))))); clear hK K; (try clear hHeld1); (try simp only [Act.put, List.setIfInBounds_toArray, List.set_cons_zero, List.set_cons_succ]))
  (refine wpAnyH_take (i := 4) (oi := { dst := some 45, op := Op.unOp UnOp.not 4 (Operand.tmp 44), type := 4, pos := "exact.go:2336", after := #[{ on := 3, ground := Ground.data }], guard := none }) (v := ?_) rfl (by kernel_rfl) (by kernel_rfl) (by kernel_rfl) (fun _ _ _ h => h) (Or.inl ⟨by rfl, ?_⟩) (by assumption) ?_; rotate_left; (focus (intro w hSw; (try dsimp only at hSw); go_simp; try with_reducible rfl)); (try simp only [Act.put, List.setIfInBounds_toArray, List.set_cons_zero, List.set_cons_succ]))
  refine wpAnyH_done (by kernel_rfl) ?_ _
  (try refine NoPanic.normal ?_)
  have ha9 := bstep ha6 f9
  have A9 := A6.later f9
  have X9 := X6.later f9
  replace hownx := ownsRow_below hownx f9
  replace hownw := ownsRow_below hownw f9
  replace howng := ownsRow_below howng f9
  clear hS1 hb8 f8 hown8 hb9 f9 A6 X6 ha6
  obtain ⟨x0, x1, x2, xz⟩ := id X9
  have hneg1 : ¬ (1 + 2 * (l.length : Int) < 0) := by omega
  go_wp2_with fail; refine (markRoad_any n d _ _ _ 1 _ _ hn (by omega) (by omega) hownx).mono ?_; rintro e' w10 ⟨rfl, hgr, ysN, hN, hallN⟩
  have ha10 : Below w.heap.size w w10 := ha9.grown hgr ha9.size (fun k e => Nat.le_trans lw3 (hownx.lt k e).1)
  have A10 := A9.grown hgr (fun e => by have h9 := (hownx.lt _ e.symm).1; have h8 := lz3; omega)
  replace hownw := hownw.kept hgr oxw2
  replace howng := howng.kept hgr ogx
  clear hgr hallN hN hownx ha9 A9 X9 x0 x1 x2 xz
  go_wp2_with fail; refine (eqr_ints _ _ _ _ _ _ hr2 howng hownw).mono ?_; rintro e' w11 ⟨rfl, hb11⟩
  have ha11 := bstep ha10 hb11
  have A11 := A10.later hb11
  replace hownw := ownsRow_below hownw hb11
  replace howng := ownsRow_below howng hb11
  clear hb11 ha10 A10
  go_wp2_with fail; refine (markr_ints _ _ _ 1 _ _ hr3 (by omega) (by omega) howng).mono ?_; rintro e' w12 ⟨rfl, hgr, ysM, hM, hallM⟩
  have ha12 : Below w.heap.size w w12 := ha11.grown hgr ha11.size (fun k e => Nat.le_trans (by simp; omega) (howng.lt k e).1)
  have A12 := A11.grown hgr (fun e => by have h9 := (howng.lt _ e.symm).1; have h8 := lz3; simp at h9; omega)
  replace hownw := hownw.kept hgr ogw2
  have HYM := Lib.hid hallM
  clear hgr hallM howng ha11 A11
  have hneg : ¬ (1 + (rl.length : Int) < 0) := by omega
  go_wp2_with fail; refine (heldr_ints _ _ _ 1 _ _ hr3 (by omega) (by omega) hM HYM.out).mono ?_; rintro e' w13 ⟨rfl, hb13⟩
  have ha13 := bstep ha12 hb13
  have A13 := A12.later hb13
  replace hownw := ownsRow_below hownw hb13
  replace hM := ownsRow_below hM hb13
  clear hb13 ha12 A12
  obtain ⟨a0, a1, a2, az⟩ := id A13
  go_wp2_with fail; refine (toRoad_any n d _ l _ (fun W hb => HY.out W (bstep ha13 hb))).mono ?_; rintro e' w14 ⟨g14, rfl, hown14, hb14⟩
  have ha14 := bstep ha13 hb14
  replace hownw := ownsRow_below hownw hb14
  replace hM := ownsRow_below hM hb14
  clear hb14 ha13 a0 a1 a2 az A13
  go_wp2_with fail; refine (HI.out _ _ (rowG_own fAmt_len hown14 HBD.out)).mono ?_; rintro e' w20 ⟨v20, rfl, hown20, hb20⟩
  have ha20 := bstep ha14 hb20
  replace hownw := ownsRow_below hownw hb20
  replace hM := ownsRow_below hM hb20
  clear hb20 ha14 hown14
  go_wp2_with fail; refine (eqr_ints _ _ _ _ _ _ hr2 hown20 hownw).mono ?_; rintro e' w21 ⟨rfl, hb21⟩
  have ha21 := bstep ha20 hb21
  replace hM := ownsRow_below hM hb21
  clear hb21 ha20 hown20 hownw
  go_wp2_with fail; refine (heldr_ints _ _ _ 1 _ _ hr3 (by omega) (by omega) hM HYM.out).mono ?_; rintro e' w22 ⟨rfl, hb22⟩
  have ha22 := bstep ha21 hb22
  go_wp2
  go_ret
  exact ⟨rfl, ha22⟩

theorem greedyStops_walk_long (n d : Int) (sa : Option Addr) (k cap : Nat) (w : World) (hn : 1048576 < k) (hn2 : k ≤ 9223372036854775807) :
    Calls Try.prog 3 #[.agg #[.int .i64 n, .int .i64 d, .slice sa k cap]] w fun e' w' => e' = .returned (.bool true) ∧ Below w.heap.size w w' := by
  have hsz := fun W => sz_road n d sa k cap W hn2
  have HS := Lib.hid hsz
  clear hsz
  go_enter Try.func3, Try.ntmps3
  go_wp2_with fail; refine (HS.out _).mono ?_; rintro e' w1 ⟨rfl, hb1⟩
  rw [if_neg (by omega)]
  have ha1 : Below w.heap.size w w1 := by (repeat (first | with_reducible exact Below.refl _ _ | with_reducible assumption | with_reducible refine balloc ?_ _ | with_reducible refine bdrew ?_ | with_reducible refine below_drewN ?_ _ | with_reducible refine bset ?_ ?_ _ | with_reducible exact Nat.le_refl _ | with_reducible refine bsize ?_ | (dsimp only; refine Nat.le_trans ?_ (Nat.le_add_right _ _)) | with_reducible refine Nat.le_trans ?_ (Nat.le_add_right _ _) | (with_reducible refine bstep ?_ (by assumption))))
  go_wp2
  go_ret
  exact ⟨rfl, ha1⟩

/-- The law at every road. -/
theorem greedyStops_walk (n d : Int) (bn : -9223372036854775808 ≤ n ∧ n ≤ 9223372036854775807) (bd : -9223372036854775808 ≤ d ∧ d ≤ 9223372036854775807) (v : Value) (w0 : World) (h : AnyG 2 fAmt w0 v) (w : World) (ew : w0 = w := by rfl) :
    Calls Try.prog 3 #[.agg #[.int .i64 n, .int .i64 d, v]] w fun e' w' => e' = .returned (.bool true) ∧ Below w.heap.size w w' := by
  subst ew
  rcases h with rfl | ⟨ad, cap, l, rfl, hL⟩
  · exact greedyStops_walk_of n d bn bd none 0 [] w0 (by simp) (by simp) (fun W _ => to_amts_nil W) (fun W v h => greedy_spec n d bn bd v [] W h) (fun W v h => greedy_impl n d bn bd v [] W h)
  · by_cases hn : l.length ≤ 1048576
    · exact greedyStops_walk_of n d bn bd (some ad) cap l w0 hn hL.hbd (fun W hb => to_amts_some ad cap l W (liesG_below hL hb) hn) (fun W v h => greedy_spec n d bn bd v l W h) (fun W v h => greedy_impl n d bn bd v l W h)
    · exact greedyStops_walk_long _ _ _ _ _ _ (by omega) (by have := hL.hlc; have := hL.hcap; omega)
end Go.Proofs.Ytngoibohkckgpaa
