/- The walk of the law FnExactSureWells: it answers as the model does, at every puzzle; the puzzle stays as it was, and the answer owns its memory. No condition. -/
import Derived.Test.YtiafmojmanhdoaaPzS
import Derived.Test.YtiafmojmanhdoaaPzP
import Derived.Test.YtiafmojmanhdoaaSoOPk
import Derived.Test.YtiafmojmanhdoaaOInt
import Derived.Test.YtiafmojmanhdoaaRInt
import Derived.Test.YtiafmojmanhdoaaAns2
import Derived.Deep.RegionHeld3
import Derived.Deep.DeepCutAuto
namespace Go.Proofs.Ytiafmojmanhdoaa
open Go.ChangeShapes Go.WideShapes Go.ChangeAt Go.RowKit Go.Joins
set_option maxRecDepth 100000
set_option linter.unusedVariables false
set_option linter.unusedSimpArgs false

set_option maxHeartbeats 6400000 in
theorem sureWells_walk_of (m : Int) (bm : (-9223372036854775808 ≤ m ∧ m ≤ 9223372036854775807)) (sa : Option Addr) (cap : Nat) (l : List ClueV) (w : World) (hn : l.length ≤ 1048576)
    (hbd : ∀ p ∈ l, ∀ y ∈ fClue p, -9223372036854775808 ≤ y ∧ y ≤ 9223372036854775807)
    (hcopy0 : ∀ W, Below w.heap.size w W → Calls Try.prog 59 #[.slice sa l.length cap] W (EndCopyG 27 3 fClue l W))
    (hs : ∀ (W : World) (v : Value), RowG 3 fClue W v l → Calls Try.prog 34 #[.agg #[.int .i64 m, v]] W (AnsG 3 1 fInt (suL m l true) (!(soL m l).isEmpty) W))
    (hi : ∀ (W : World) (v : Value), RowG 3 fClue W v l → Calls Try.prog 35 #[.agg #[.int .i64 m, v]] W (AnsG 3 1 fInt (suL m l true) (!(soL m l).isEmpty) W)) :
    Calls Try.prog 7 #[.agg #[.int .i64 m, .slice sa l.length cap]] w fun e' w' => e' = .returned (.bool true) ∧ Below w.heap.size w w' := by
  have hpos : ¬ (1048576 - (l.length : Int) < 0) := by omega
  have hsz := fun W => sz_pz m sa l.length cap W (by omega)
  have HZ := Lib.hid hsz
  have HY := Lib.hid hcopy0
  have HBD := Lib.hid hbd
  have HS := Lib.hid hs
  have HI := Lib.hid hi
  clear hsz hcopy0 hbd hs hi
  have hr2 : (suL m l true).length ≤ 1048576 := su_len m l true
  have hr3 : (suL m l true).length ≤ 1048576 := hr2
  generalize (suL m l true) = rl at *
  generalize (!(soL m l).isEmpty) = rb at *
  go_enter Try.func7, Try.ntmps7
  go_wp2_with fail; refine (HZ.out _).mono ?_; rintro e' w1 ⟨rfl, hb1⟩
  rw [if_pos hn]
  have ha1 : Below w.heap.size w w1 := by (repeat (first | with_reducible exact Below.refl _ _ | with_reducible assumption | with_reducible refine balloc ?_ _ | with_reducible refine bdrew ?_ | with_reducible refine below_drewN ?_ _ | with_reducible refine bset ?_ ?_ _ | with_reducible exact Nat.le_refl _ | with_reducible refine bsize ?_ | (dsimp only; refine Nat.le_trans ?_ (Nat.le_add_right _ _)) | with_reducible refine Nat.le_trans ?_ (Nat.le_add_right _ _) | (with_reducible refine bstep ?_ (by assumption))))
  have A : PzAt w.heap.size m (.slice sa l.length cap) w1 := (PzAt.new w m _ _).later hb1
  clear HZ hb1
  obtain ⟨Ap, Aq, Az⟩ := id A
  go_wp2_with fail; refine (toPz_any m _ l _ (fun W hb => HY.out W (bstep (show Below w.heap.size w _ by first | with_reducible assumption | ((repeat (first | with_reducible exact Below.refl _ _ | with_reducible assumption | with_reducible refine balloc ?_ _ | with_reducible refine bdrew ?_ | with_reducible refine below_drewN ?_ _ | with_reducible refine bset ?_ ?_ _ | with_reducible exact Nat.le_refl _ | with_reducible refine bsize ?_ | (dsimp only; refine Nat.le_trans ?_ (Nat.le_add_right _ _)) | with_reducible refine Nat.le_trans ?_ (Nat.le_add_right _ _) | (with_reducible refine bstep ?_ (by assumption)))); done)) hb))).mono ?_; rintro e' w2 ⟨g2, rfl, hown2, hb2⟩
  have f2 : Below w1.heap.size w1 w2 := bstep (show Below w1.heap.size w1 _ by (repeat (first | with_reducible exact Below.refl _ _ | with_reducible assumption | with_reducible refine balloc ?_ _ | with_reducible refine bdrew ?_ | with_reducible refine below_drewN ?_ _ | with_reducible refine bset ?_ ?_ _ | with_reducible exact Nat.le_refl _ | with_reducible refine bsize ?_ | (dsimp only; refine Nat.le_trans ?_ (Nat.le_add_right _ _)) | with_reducible refine Nat.le_trans ?_ (Nat.le_add_right _ _) | (with_reducible refine bstep ?_ (by assumption))))) hb2
  have ha2 := bstep ha1 f2
  clear Ap Aq Az
  replace A := A.later f2
  clear ha1
  obtain ⟨Ap, Aq, Az⟩ := id A
  go_wp2_with fail; refine (HS.out _ _ (rowG_own fClue_len hown2 HBD.out)).mono ?_; rintro e' w3 ⟨v3, rfl, hownw, hb3⟩
  obtain ⟨aw, cw, rfl⟩ := owns_shape hownw
  have f3 : Below w2.heap.size w2 w3 := bstep (show Below w2.heap.size w2 _ by (repeat (first | with_reducible exact Below.refl _ _ | with_reducible assumption | with_reducible refine balloc ?_ _ | with_reducible refine bdrew ?_ | with_reducible refine below_drewN ?_ _ | with_reducible refine bset ?_ ?_ _ | with_reducible exact Nat.le_refl _ | with_reducible refine bsize ?_ | (dsimp only; refine Nat.le_trans ?_ (Nat.le_add_right _ _)) | with_reducible refine Nat.le_trans ?_ (Nat.le_add_right _ _) | (with_reducible refine bstep ?_ (by assumption))))) hb3
  have ha3 := bstep ha2 f3
  clear Ap Aq Az
  replace A := A.later f3
  clear ha2
  have hownw3lt : ∀ x, (Value.slice aw rl.length cw).ownBlock = some x → x < w3.heap.size := fun x h => (hownw.lt x h).2
  have ha3s := ha3.size
  have zA : w.heap.size < w3.heap.size := A.2.2
  clear hown2 hb2 hb3
  obtain ⟨Ap, Aq, Az⟩ := id A
  go_wp2_with fail; refine (toPz_any m _ l _ (fun W hb => HY.out W (bstep (show Below w.heap.size w _ by first | with_reducible assumption | ((repeat (first | with_reducible exact Below.refl _ _ | with_reducible assumption | with_reducible refine balloc ?_ _ | with_reducible refine bdrew ?_ | with_reducible refine below_drewN ?_ _ | with_reducible refine bset ?_ ?_ _ | with_reducible exact Nat.le_refl _ | with_reducible refine bsize ?_ | (dsimp only; refine Nat.le_trans ?_ (Nat.le_add_right _ _)) | with_reducible refine Nat.le_trans ?_ (Nat.le_add_right _ _) | (with_reducible refine bstep ?_ (by assumption)))); done)) hb))).mono ?_; rintro e' w4 ⟨g4, rfl, hownx, hb4⟩
  have f4 : Below w3.heap.size w3 w4 := bstep (show Below w3.heap.size w3 _ by (repeat (first | with_reducible exact Below.refl _ _ | with_reducible assumption | with_reducible refine balloc ?_ _ | with_reducible refine bdrew ?_ | with_reducible refine below_drewN ?_ _ | with_reducible refine bset ?_ ?_ _ | with_reducible exact Nat.le_refl _ | with_reducible refine bsize ?_ | (dsimp only; refine Nat.le_trans ?_ (Nat.le_add_right _ _)) | with_reducible refine Nat.le_trans ?_ (Nat.le_add_right _ _) | (with_reducible refine bstep ?_ (by assumption))))) hb4
  have ha4 := bstep ha3 f4
  clear Ap Aq Az
  replace A := A.later f4
  replace hownw := ownsRow_below hownw f4
  clear ha3
  have hownwlt : ∀ x, (Value.slice aw rl.length cw).ownBlock = some x → x < w3.heap.size := hownw3lt
  have lw3 : w.heap.size ≤ w3.heap.size := ha3s
  have gx : w3.heap.size ≤ g4 := by have := own_block hownx rfl; simp at this; omega
  obtain ⟨Ap, Aq, Az⟩ := id A
  go_wp2_with fail; refine (HI.out _ _ (rowG_own fClue_len (hownx.alloc _) HBD.out)).mono ?_; rintro e' w5 ⟨v5, rfl, howng, hb5⟩
  obtain ⟨ag, cg, rfl⟩ := owns_shape howng
  have hg5 := howng
  have hownx4lt := hownx.lt
  have f5 : Below w4.heap.size w4 w5 := bstep (show Below w4.heap.size w4 _ by (repeat (first | with_reducible exact Below.refl _ _ | with_reducible assumption | with_reducible refine balloc ?_ _ | with_reducible refine bdrew ?_ | with_reducible refine below_drewN ?_ _ | with_reducible refine bset ?_ ?_ _ | with_reducible exact Nat.le_refl _ | with_reducible refine bsize ?_ | (dsimp only; refine Nat.le_trans ?_ (Nat.le_add_right _ _)) | with_reducible refine Nat.le_trans ?_ (Nat.le_add_right _ _) | (with_reducible refine bstep ?_ (by assumption))))) hb5
  have ha5 := bstep ha4 f5
  clear Ap Aq Az
  replace A := A.later f5
  replace hownw := ownsRow_below hownw f5
  clear ha4
  have X := (PzAt.new w4 m (.slice (some ⟨g4, 0, none⟩) l.length l.length) 41).later hb5
  replace hownx := ownsRow_below hownx f5
  have gx3 : g4 < w4.heap.size := (hownx4lt g4 rfl).2
  have hownglt : ∀ k, (Value.slice ag rl.length cg).ownBlock = some k → w4.heap.size < k := fun k e => by have := own_block hg5 e; simp at this; omega
  have ogx : (Value.slice ag rl.length cg).ownBlock = none ∨ (Value.slice ag rl.length cg).ownBlock ≠ some g4 := by
    cases h : (Value.slice ag rl.length cg).ownBlock with
    | none => exact Or.inl rfl
    | some x => exact Or.inr (fun e => by injection e with e; have := hownglt x h; omega)
  have l34 : w3.heap.size ≤ w4.heap.size := f4.size
  have ogw : (Value.slice aw rl.length cw).ownBlock = none ∨ (Value.slice aw rl.length cw).ownBlock ≠ (Value.slice ag rl.length cg).ownBlock := by
    cases h : (Value.slice aw rl.length cw).ownBlock with
    | none => exact Or.inl rfl
    | some x => exact Or.inr (fun e => by have h1 := hownglt x e.symm; have h2 := hownw3lt x h; omega)
  have hownglt2 : ∀ k, (Value.slice ag rl.length cg).ownBlock = some k → k < w5.heap.size := fun k e => (hg5.lt k e).2
  have zX : g4 < w4.heap.size := gx3
  clear hb4 hb5 hg5
  obtain ⟨Ap, Aq, Az⟩ := id A
  obtain ⟨Xp, Xq, Xz⟩ := id X
  go_wp2_with fail; refine (eqr_ints _ _ _ _ _ _ hr2 howng hownw).mono ?_; rintro e' w6 ⟨rfl, hb6⟩
  have f6 : Below w5.heap.size w5 w6 := bstep (show Below w5.heap.size w5 _ by (repeat (first | with_reducible exact Below.refl _ _ | with_reducible assumption | with_reducible refine balloc ?_ _ | with_reducible refine bdrew ?_ | with_reducible refine below_drewN ?_ _ | with_reducible refine bset ?_ ?_ _ | with_reducible exact Nat.le_refl _ | with_reducible refine bsize ?_ | (dsimp only; refine Nat.le_trans ?_ (Nat.le_add_right _ _)) | with_reducible refine Nat.le_trans ?_ (Nat.le_add_right _ _) | (with_reducible refine bstep ?_ (by assumption))))) hb6
  have ha6 := bstep ha5 f6
  clear Ap Aq Az Xp Xq Xz
  replace A := A.later f6
  replace X := X.later f6
  replace hownw := ownsRow_below hownw f6
  replace hownx := ownsRow_below hownx f6
  replace howng := ownsRow_below howng f6
  clear ha5
  clear hb6
  obtain ⟨Ap, Aq, Az⟩ := id A
  obtain ⟨Xp, Xq, Xz⟩ := id X
  go_upto_region 10 with fail
  have hS1 := Lib.hid (fun (W : World) (h : Below w6.heap.size w6 W) => (⟨h, keepa h Az Ap, keepa h Az Aq, keepa h Xz Xp, keepa h Xz Xq⟩ : Below w6.heap.size w6 W ∧ W.cell? ⟨w.heap.size, 0, none⟩ = some (.int .i64 m) ∧ W.cell? ⟨w.heap.size, 1, none⟩ = some (.slice sa l.length cap) ∧ W.cell? ⟨w4.heap.size, 0, none⟩ = some (.int .i64 m) ∧ W.cell? ⟨w4.heap.size, 1, none⟩ = some (.slice (some ⟨g4, 0, none⟩) l.length l.length)))
  clear Ap Aq Az Xp Xq Xz
  refine wp_region_noPanic ?_
  refine wp_region_held_drew (S := (fun W => Below w6.heap.size w6 W ∧ W.cell? ⟨w.heap.size, 0, none⟩ = some (.int .i64 m) ∧ W.cell? ⟨w.heap.size, 1, none⟩ = some (.slice sa l.length cap) ∧ W.cell? ⟨w4.heap.size, 0, none⟩ = some (.int .i64 m) ∧ W.cell? ⟨w4.heap.size, 1, none⟩ = some (.slice (some ⟨g4, 0, none⟩) l.length l.length))) (by kernel_rfl) ?_ (fun hHeld0 => ?_)
  · (try dsimp only); (refine hS1.out _ ?_; (first | with_reducible assumption | ((repeat (first | with_reducible exact Below.refl _ _ | with_reducible assumption | with_reducible refine balloc ?_ _ | with_reducible refine bdrew ?_ | with_reducible refine below_drewN ?_ _ | with_reducible refine bset ?_ ?_ _ | with_reducible exact Nat.le_refl _ | with_reducible refine bsize ?_ | (dsimp only; refine Nat.le_trans ?_ (Nat.le_add_right _ _)) | with_reducible refine Nat.le_trans ?_ (Nat.le_add_right _ _) | (with_reducible refine bstep ?_ (by assumption)))); done)))
  (refine wpAnyH_take (i := 0) (oi := { dst := some 41, op := Op.load 41 (Operand.tmp 6), type := 41, pos := "exact.go:3347", after := #[], guard := none }) (v := ?_) rfl (by kernel_rfl) (by kernel_rfl) (by kernel_rfl) (fun _ _ _ h => h) (Or.inl ⟨by rfl, ?_⟩) (by assumption) ?_; rotate_left; (focus (intro w hSw; (try dsimp only at hSw); go_simp; try with_reducible rfl)); (try simp only [Act.put, List.setIfInBounds_toArray, List.set_cons_zero, List.set_cons_succ]))
  (refine wpAnyH_take (i := 1) (oi := { dst := some 42, op := Op.load 34 (Operand.tmp 1), type := 34, pos := "exact.go:3347", after := #[], guard := none }) (v := ?_) rfl (by kernel_rfl) (by kernel_rfl) (by kernel_rfl) (fun _ _ _ h => h) (Or.inl ⟨by rfl, ?_⟩) (by assumption) ?_; rotate_left; (focus (intro w hSw; (try dsimp only at hSw); go_simp; try with_reducible rfl)); (try simp only [Act.put, List.setIfInBounds_toArray, List.set_cons_zero, List.set_cons_succ]))
  (refine wpAnyH_ready (rs := [2]) (by kernel_rfl) (by simp) ?_; refine AllReadyH.cons (o := { dst := some 43, op := Op.call { callee := Callee.value (Operand.func 21), args := #[Operand.tmp 42], argTypes := #[34] }, type := 41, pos := "exact.go:3347", after := #[{ on := 1, ground := Ground.data }], guard := none }) rfl (fun K hK => ?_) AllReadyH.nil; go_simp; (first | (refine (toPz_any m _ l _ (fun W hb => HY.out W (bstep (show Below w.heap.size w _ by first | exact ha6 | exact bdrew ha6 | ((repeat (first | with_reducible exact Below.refl _ _ | with_reducible assumption | with_reducible refine balloc ?_ _ | with_reducible refine bdrew ?_ | with_reducible refine below_drewN ?_ _ | with_reducible refine bset ?_ ?_ _ | with_reducible exact Nat.le_refl _ | with_reducible refine bsize ?_ | (dsimp only; refine Nat.le_trans ?_ (Nat.le_add_right _ _)) | with_reducible refine Nat.le_trans ?_ (Nat.le_add_right _ _) | (with_reducible refine bstep ?_ (by assumption)))); done)) hb))).mono ?_; rintro en w8 ⟨g8, rfl, hown8, hb8⟩; (have f8 : Below w6.heap.size w6 w8 := bstep (by first | with_reducible assumption | ((repeat (first | with_reducible exact Below.refl _ _ | with_reducible assumption | with_reducible refine balloc ?_ _ | with_reducible refine bdrew ?_ | with_reducible refine below_drewN ?_ _ | with_reducible refine bset ?_ ?_ _ | with_reducible exact Nat.le_refl _ | with_reducible refine bsize ?_ | (dsimp only; refine Nat.le_trans ?_ (Nat.le_add_right _ _)) | with_reducible refine Nat.le_trans ?_ (Nat.le_add_right _ _) | (with_reducible refine bstep ?_ (by assumption)))); done)) hb8)) | (refine (eqPz_same m _ _ _ (fun W hb => eqr_clues _ _ _ _ _ W hn (ownsRow_below hownx (bstep (show Below w6.heap.size w6 _ by first | with_reducible assumption | ((repeat (first | with_reducible exact Below.refl _ _ | with_reducible assumption | with_reducible refine balloc ?_ _ | with_reducible refine bdrew ?_ | with_reducible refine below_drewN ?_ _ | with_reducible refine bset ?_ ?_ _ | with_reducible exact Nat.le_refl _ | with_reducible refine bsize ?_ | (dsimp only; refine Nat.le_trans ?_ (Nat.le_add_right _ _)) | with_reducible refine Nat.le_trans ?_ (Nat.le_add_right _ _) | (with_reducible refine bstep ?_ (by assumption)))); done)) hb)) (ownsRow_below hown8 (by first | with_reducible assumption | ((repeat (first | with_reducible exact Below.refl _ _ | with_reducible assumption | with_reducible refine balloc ?_ _ | with_reducible refine bdrew ?_ | with_reducible refine below_drewN ?_ _ | with_reducible refine bset ?_ ?_ _ | with_reducible exact Nat.le_refl _ | with_reducible refine bsize ?_ | (dsimp only; refine Nat.le_trans ?_ (Nat.le_add_right _ _)) | with_reducible refine Nat.le_trans ?_ (Nat.le_add_right _ _) | (with_reducible refine bstep ?_ (by assumption)))); done))))).mono ?_; rintro en w9 ⟨rfl, hb9⟩; (have f9 : Below w6.heap.size w6 w9 := bstep (by first | with_reducible assumption | ((repeat (first | with_reducible exact Below.refl _ _ | with_reducible assumption | with_reducible refine balloc ?_ _ | with_reducible refine bdrew ?_ | with_reducible refine below_drewN ?_ _ | with_reducible refine bset ?_ ?_ _ | with_reducible exact Nat.le_refl _ | with_reducible refine bsize ?_ | (dsimp only; refine Nat.le_trans ?_ (Nat.le_add_right _ _)) | with_reducible refine Nat.le_trans ?_ (Nat.le_add_right _ _) | (with_reducible refine bstep ?_ (by assumption)))); done)) hb9))); (first | refine hK.out _ _ ?_ (fun hHeld1 => ?_) | (go_wp2_with fail; refine hK.out _ _ ?_ (fun hHeld1 => ?_))); (focus ((try dsimp only); (refine hS1.out _ ?_; (first | with_reducible assumption | ((repeat (first | with_reducible exact Below.refl _ _ | with_reducible assumption | with_reducible refine balloc ?_ _ | with_reducible refine bdrew ?_ | with_reducible refine below_drewN ?_ _ | with_reducible refine bset ?_ ?_ _ | with_reducible exact Nat.le_refl _ | with_reducible refine bsize ?_ | (dsimp only; refine Nat.le_trans ?_ (Nat.le_add_right _ _)) | with_reducible refine Nat.le_trans ?_ (Nat.le_add_right _ _) | (with_reducible refine bstep ?_ (by assumption)))); done))))); clear hK K; (try clear hHeld0); (try simp only [Act.put, List.setIfInBounds_toArray, List.set_cons_zero, List.set_cons_succ]))
  (refine wpAnyH_ready (rs := [3]) (by kernel_rfl) (by simp) ?_; refine AllReadyH.cons (o := { dst := some 44, op := Op.call { callee := Callee.value (Operand.func 24), args := #[Operand.tmp 41, Operand.tmp 43], argTypes := #[41, 41] }, type := 4, pos := "exact.go:3347", after := #[{ on := 0, ground := Ground.data }, { on := 2, ground := Ground.data }, { on := 2, ground := Ground.chain }], guard := none }) rfl (fun K hK => ?_) AllReadyH.nil; go_simp; (first | (refine (toPz_any m _ l _ (fun W hb => HY.out W (bstep (show Below w.heap.size w _ by first | exact ha6 | exact bdrew ha6 | ((repeat (first | with_reducible exact Below.refl _ _ | with_reducible assumption | with_reducible refine balloc ?_ _ | with_reducible refine bdrew ?_ | with_reducible refine below_drewN ?_ _ | with_reducible refine bset ?_ ?_ _ | with_reducible exact Nat.le_refl _ | with_reducible refine bsize ?_ | (dsimp only; refine Nat.le_trans ?_ (Nat.le_add_right _ _)) | with_reducible refine Nat.le_trans ?_ (Nat.le_add_right _ _) | (with_reducible refine bstep ?_ (by assumption)))); done)) hb))).mono ?_; rintro en w8 ⟨g8, rfl, hown8, hb8⟩; (have f8 : Below w6.heap.size w6 w8 := bstep (by first | with_reducible assumption | ((repeat (first | with_reducible exact Below.refl _ _ | with_reducible assumption | with_reducible refine balloc ?_ _ | with_reducible refine bdrew ?_ | with_reducible refine below_drewN ?_ _ | with_reducible refine bset ?_ ?_ _ | with_reducible exact Nat.le_refl _ | with_reducible refine bsize ?_ | (dsimp only; refine Nat.le_trans ?_ (Nat.le_add_right _ _)) | with_reducible refine Nat.le_trans ?_ (Nat.le_add_right _ _) | (with_reducible refine bstep ?_ (by assumption)))); done)) hb8)) | (refine (eqPz_same m _ _ _ (fun W hb => eqr_clues _ _ _ _ _ W hn (ownsRow_below hownx (bstep (show Below w6.heap.size w6 _ by first | with_reducible assumption | ((repeat (first | with_reducible exact Below.refl _ _ | with_reducible assumption | with_reducible refine balloc ?_ _ | with_reducible refine bdrew ?_ | with_reducible refine below_drewN ?_ _ | with_reducible refine bset ?_ ?_ _ | with_reducible exact Nat.le_refl _ | with_reducible refine bsize ?_ | (dsimp only; refine Nat.le_trans ?_ (Nat.le_add_right _ _)) | with_reducible refine Nat.le_trans ?_ (Nat.le_add_right _ _) | (with_reducible refine bstep ?_ (by assumption)))); done)) hb)) (ownsRow_below hown8 (by first | with_reducible assumption | ((repeat (first | with_reducible exact Below.refl _ _ | with_reducible assumption | with_reducible refine balloc ?_ _ | with_reducible refine bdrew ?_ | with_reducible refine below_drewN ?_ _ | with_reducible refine bset ?_ ?_ _ | with_reducible exact Nat.le_refl _ | with_reducible refine bsize ?_ | (dsimp only; refine Nat.le_trans ?_ (Nat.le_add_right _ _)) | with_reducible refine Nat.le_trans ?_ (Nat.le_add_right _ _) | (with_reducible refine bstep ?_ (by assumption)))); done))))).mono ?_; rintro en w9 ⟨rfl, hb9⟩; (have f9 : Below w6.heap.size w6 w9 := bstep (by first | with_reducible assumption | ((repeat (first | with_reducible exact Below.refl _ _ | with_reducible assumption | with_reducible refine balloc ?_ _ | with_reducible refine bdrew ?_ | with_reducible refine below_drewN ?_ _ | with_reducible refine bset ?_ ?_ _ | with_reducible exact Nat.le_refl _ | with_reducible refine bsize ?_ | (dsimp only; refine Nat.le_trans ?_ (Nat.le_add_right _ _)) | with_reducible refine Nat.le_trans ?_ (Nat.le_add_right _ _) | (with_reducible refine bstep ?_ (by assumption)))); done)) hb9))); (first | refine hK.out _ _ ?_ (fun hHeld2 => ?_) | (go_wp2_with fail; refine hK.out _ _ ?_ (fun hHeld2 => ?_))); (focus ((try dsimp only); (refine hS1.out _ ?_; (first | with_reducible assumption | ((repeat (first | with_reducible exact Below.refl _ _ | with_reducible assumption | with_reducible refine balloc ?_ _ | with_reducible refine bdrew ?_ | with_reducible refine below_drewN ?_ _ | with_reducible refine bset ?_ ?_ _ | with_reducible exact Nat.le_refl _ | with_reducible refine bsize ?_ | (dsimp only; refine Nat.le_trans ?_ (Nat.le_add_right _ _)) | with_reducible refine Nat.le_trans ?_ (Nat.le_add_right _ _) | (with_reducible refine bstep ?_ (by assumption)))); done))))); clear hK K; (try clear hHeld1); (try simp only [Act.put, List.setIfInBounds_toArray, List.set_cons_zero, List.set_cons_succ]))
  (refine wpAnyH_take (i := 4) (oi := { dst := some 45, op := Op.unOp UnOp.not 4 (Operand.tmp 44), type := 4, pos := "exact.go:3347", after := #[{ on := 3, ground := Ground.data }], guard := none }) (v := ?_) rfl (by kernel_rfl) (by kernel_rfl) (by kernel_rfl) (fun _ _ _ h => h) (Or.inl ⟨by rfl, ?_⟩) (by assumption) ?_; rotate_left; (focus (intro w hSw; (try dsimp only at hSw); go_simp; try with_reducible rfl)); (try simp only [Act.put, List.setIfInBounds_toArray, List.set_cons_zero, List.set_cons_succ]))
  refine wpAnyH_done (by kernel_rfl) ?_ _
  (try refine NoPanic.normal ?_)
  have ha9 := bstep ha6 f9
  replace A := A.later f9
  replace X := X.later f9
  replace hownw := ownsRow_below hownw f9
  replace hownx := ownsRow_below hownx f9
  replace howng := ownsRow_below howng f9
  clear hS1 hb8 f8 hown8 hb9 f9 ha6
  have hneg1 : ¬ (1 + 3 * (l.length : Int) < 0) := by omega
  have oxw : (Value.slice aw rl.length cw).ownBlock = none ∨ (Value.slice aw rl.length cw).ownBlock ≠ some g4 := by
    cases h : (Value.slice aw rl.length cw).ownBlock with
    | none => exact Or.inl rfl
    | some x => exact Or.inr (fun e => by injection e with e; have := hownwlt x h; omega)
  obtain ⟨Ap, Aq, Az⟩ := id A
  obtain ⟨Xp, Xq, Xz⟩ := id X
  go_wp2_with fail; refine (markPz_any m _ _ _ 1 _ _ hn (by omega) (by omega) hownx).mono ?_; rintro e' w10 ⟨rfl, hgr, ysN, hN, hallN⟩
  clear Ap Aq Az Xp Xq Xz
  have gx2 : ∀ k, (Value.slice (some ⟨g4, 0, none⟩) l.length l.length).ownBlock = some k → w3.heap.size ≤ k := fun k e => by (have e2 : g4 = k := by simpa [Value.ownBlock] using e); omega
  have ha10 : Below w.heap.size w w10 := ha9.grown hgr ha9.size (fun k e => Nat.le_trans lw3 (gx2 k e))
  replace A := A.grown hgr (fun e => by have h9 : g4 = _ := (by simpa [Value.ownBlock] using e.symm); have := zA; omega)
  replace X := X.grown hgr (fun e => by have h9 : g4 = _ := (by simpa [Value.ownBlock] using e.symm); have := zX; omega)
  replace hownw := hownw.kept hgr oxw
  replace howng := howng.kept hgr ogx
  clear hgr hallN hN hownx ha9 oxw ogx
  clear X
  obtain ⟨Ap, Aq, Az⟩ := id A
  go_wp2_with fail; refine (eqr_ints _ _ _ _ _ _ hr2 howng hownw).mono ?_; rintro e' w11 ⟨rfl, hb11⟩
  have f11 : Below w10.heap.size w10 w11 := bstep (show Below w10.heap.size w10 _ by (repeat (first | with_reducible exact Below.refl _ _ | with_reducible assumption | with_reducible refine balloc ?_ _ | with_reducible refine bdrew ?_ | with_reducible refine below_drewN ?_ _ | with_reducible refine bset ?_ ?_ _ | with_reducible exact Nat.le_refl _ | with_reducible refine bsize ?_ | (dsimp only; refine Nat.le_trans ?_ (Nat.le_add_right _ _)) | with_reducible refine Nat.le_trans ?_ (Nat.le_add_right _ _) | (with_reducible refine bstep ?_ (by assumption))))) hb11
  have ha11 := bstep ha10 f11
  clear Ap Aq Az
  replace A := A.later f11
  replace hownw := ownsRow_below hownw f11
  replace howng := ownsRow_below howng f11
  clear ha10
  clear hb11
  obtain ⟨Ap, Aq, Az⟩ := id A
  go_wp2_with fail; refine (markr_ints _ _ _ 1 _ _ hr3 (by omega) (by omega) howng).mono ?_; rintro e' w12 ⟨rfl, hgr, ysM, hM, hallM⟩
  clear Ap Aq Az
  have ha12 : Below w.heap.size w w12 := ha11.grown hgr ha11.size (fun k e => Nat.le_trans (Nat.le_trans lw3 (by omega)) (hownglt k e))
  replace A := A.grown hgr (fun e => by have h9 := hownglt _ e.symm; have := zA; omega)
  replace hownw := hownw.kept hgr ogw
  have HYM := Lib.hid hallM
  clear hgr hallM howng ha11 ogw
  have hneg : ¬ (1 + (rl.length : Int) < 0) := by omega
  obtain ⟨Ap, Aq, Az⟩ := id A
  go_wp2_with fail; refine (heldr_ints _ _ _ 1 _ _ hr3 (by omega) (by omega) hM HYM.out).mono ?_; rintro e' w13 ⟨rfl, hb13⟩
  have f13 : Below w12.heap.size w12 w13 := bstep (show Below w12.heap.size w12 _ by (repeat (first | with_reducible exact Below.refl _ _ | with_reducible assumption | with_reducible refine balloc ?_ _ | with_reducible refine bdrew ?_ | with_reducible refine below_drewN ?_ _ | with_reducible refine bset ?_ ?_ _ | with_reducible exact Nat.le_refl _ | with_reducible refine bsize ?_ | (dsimp only; refine Nat.le_trans ?_ (Nat.le_add_right _ _)) | with_reducible refine Nat.le_trans ?_ (Nat.le_add_right _ _) | (with_reducible refine bstep ?_ (by assumption))))) hb13
  have ha13 := bstep ha12 f13
  clear Ap Aq Az
  replace A := A.later f13
  replace hownw := ownsRow_below hownw f13
  replace hM := ownsRow_below hM f13
  clear ha12
  clear hb13
  obtain ⟨Ap, Aq, Az⟩ := id A
  go_wp2_with fail; refine (toPz_any m _ l _ (fun W hb => HY.out W (bstep (show Below w.heap.size w _ by first | with_reducible assumption | ((repeat (first | with_reducible exact Below.refl _ _ | with_reducible assumption | with_reducible refine balloc ?_ _ | with_reducible refine bdrew ?_ | with_reducible refine below_drewN ?_ _ | with_reducible refine bset ?_ ?_ _ | with_reducible exact Nat.le_refl _ | with_reducible refine bsize ?_ | (dsimp only; refine Nat.le_trans ?_ (Nat.le_add_right _ _)) | with_reducible refine Nat.le_trans ?_ (Nat.le_add_right _ _) | (with_reducible refine bstep ?_ (by assumption)))); done)) hb))).mono ?_; rintro e' w14 ⟨g14, rfl, hown14, hb14⟩
  have f14 : Below w13.heap.size w13 w14 := bstep (show Below w13.heap.size w13 _ by (repeat (first | with_reducible exact Below.refl _ _ | with_reducible assumption | with_reducible refine balloc ?_ _ | with_reducible refine bdrew ?_ | with_reducible refine below_drewN ?_ _ | with_reducible refine bset ?_ ?_ _ | with_reducible exact Nat.le_refl _ | with_reducible refine bsize ?_ | (dsimp only; refine Nat.le_trans ?_ (Nat.le_add_right _ _)) | with_reducible refine Nat.le_trans ?_ (Nat.le_add_right _ _) | (with_reducible refine bstep ?_ (by assumption))))) hb14
  have ha14 := bstep ha13 f14
  clear Ap Aq Az
  replace A := A.later f14
  replace hownw := ownsRow_below hownw f14
  replace hM := ownsRow_below hM f14
  clear ha13
  clear hb14
  obtain ⟨Ap, Aq, Az⟩ := id A
  go_wp2_with fail; refine (HI.out _ _ (rowG_own fClue_len hown14 HBD.out)).mono ?_; rintro e' w15 ⟨v20, rfl, hown20, hb15⟩
  have f15 : Below w14.heap.size w14 w15 := bstep (show Below w14.heap.size w14 _ by (repeat (first | with_reducible exact Below.refl _ _ | with_reducible assumption | with_reducible refine balloc ?_ _ | with_reducible refine bdrew ?_ | with_reducible refine below_drewN ?_ _ | with_reducible refine bset ?_ ?_ _ | with_reducible exact Nat.le_refl _ | with_reducible refine bsize ?_ | (dsimp only; refine Nat.le_trans ?_ (Nat.le_add_right _ _)) | with_reducible refine Nat.le_trans ?_ (Nat.le_add_right _ _) | (with_reducible refine bstep ?_ (by assumption))))) hb15
  have ha15 := bstep ha14 f15
  clear Ap Aq Az
  replace A := A.later f15
  replace hownw := ownsRow_below hownw f15
  replace hM := ownsRow_below hM f15
  clear ha14
  clear hb15 hown14
  obtain ⟨Ap, Aq, Az⟩ := id A
  go_wp2_with fail; refine (eqr_ints _ _ _ _ _ _ hr2 hown20 hownw).mono ?_; rintro e' w16 ⟨rfl, hb16⟩
  have f16 : Below w15.heap.size w15 w16 := bstep (show Below w15.heap.size w15 _ by (repeat (first | with_reducible exact Below.refl _ _ | with_reducible assumption | with_reducible refine balloc ?_ _ | with_reducible refine bdrew ?_ | with_reducible refine below_drewN ?_ _ | with_reducible refine bset ?_ ?_ _ | with_reducible exact Nat.le_refl _ | with_reducible refine bsize ?_ | (dsimp only; refine Nat.le_trans ?_ (Nat.le_add_right _ _)) | with_reducible refine Nat.le_trans ?_ (Nat.le_add_right _ _) | (with_reducible refine bstep ?_ (by assumption))))) hb16
  have ha16 := bstep ha15 f16
  clear Ap Aq Az
  replace A := A.later f16
  replace hownw := ownsRow_below hownw f16
  replace hM := ownsRow_below hM f16
  clear ha15
  clear hb16 hown20 hownw
  obtain ⟨Ap, Aq, Az⟩ := id A
  go_wp2_with fail; refine (heldr_ints _ _ _ 1 _ _ hr3 (by omega) (by omega) hM HYM.out).mono ?_; rintro e' w17 ⟨rfl, hb17⟩
  have f17 : Below w16.heap.size w16 w17 := bstep (show Below w16.heap.size w16 _ by (repeat (first | with_reducible exact Below.refl _ _ | with_reducible assumption | with_reducible refine balloc ?_ _ | with_reducible refine bdrew ?_ | with_reducible refine below_drewN ?_ _ | with_reducible refine bset ?_ ?_ _ | with_reducible exact Nat.le_refl _ | with_reducible refine bsize ?_ | (dsimp only; refine Nat.le_trans ?_ (Nat.le_add_right _ _)) | with_reducible refine Nat.le_trans ?_ (Nat.le_add_right _ _) | (with_reducible refine bstep ?_ (by assumption))))) hb17
  have ha17 := bstep ha16 f17
  clear Ap Aq Az
  replace A := A.later f17
  replace hM := ownsRow_below hM f17
  clear ha16
  go_wp2
  go_ret
  exact ⟨rfl, ha17⟩

theorem sureWells_walk_long (m : Int) (sa : Option Addr) (k cap : Nat) (w : World) (hn : 1048576 < k) (hn2 : k ≤ 9223372036854775807) :
    Calls Try.prog 7 #[.agg #[.int .i64 m, .slice sa k cap]] w fun e' w' => e' = .returned (.bool true) ∧ Below w.heap.size w w' := by
  have hsz := fun W => sz_pz m sa k cap W hn2
  have HS := Lib.hid hsz
  clear hsz
  go_enter Try.func7, Try.ntmps7
  go_wp2_with fail; refine (HS.out _).mono ?_; rintro e' w1 ⟨rfl, hb1⟩
  rw [if_neg (by omega)]
  have ha1 : Below w.heap.size w w1 := by (repeat (first | with_reducible exact Below.refl _ _ | with_reducible assumption | with_reducible refine balloc ?_ _ | with_reducible refine bdrew ?_ | with_reducible refine below_drewN ?_ _ | with_reducible refine bset ?_ ?_ _ | with_reducible exact Nat.le_refl _ | with_reducible refine bsize ?_ | (dsimp only; refine Nat.le_trans ?_ (Nat.le_add_right _ _)) | with_reducible refine Nat.le_trans ?_ (Nat.le_add_right _ _) | (with_reducible refine bstep ?_ (by assumption))))
  go_wp2
  go_ret
  exact ⟨rfl, ha1⟩

/-- The law at every puzzle. -/
theorem sureWells_walk (m : Int) (bm : (-9223372036854775808 ≤ m ∧ m ≤ 9223372036854775807)) (v : Value) (w0 : World) (h : AnyG 3 fClue w0 v) (w : World) (ew : w0 = w := by rfl) :
    Calls Try.prog 7 #[.agg #[.int .i64 m, v]] w fun e' w' => e' = .returned (.bool true) ∧ Below w.heap.size w w' := by
  subst ew
  rcases h with rfl | ⟨ad, cap, l, rfl, hL⟩
  · exact sureWells_walk_of m bm none 0 ([] : List ClueV) w0 (by simp) (by simp) (fun W _ => to_clues_nil W) (fun W v h => sureW_spec m bm v [] W h) (fun W v h => sureW_impl m bm v [] W h)
  · by_cases hn : l.length ≤ 1048576
    · have s1 : ∀ (W : World) (v : Value), RowG 3 fClue W v l → _ := fun W v h => sureW_spec m bm v l W h
      have s2 : ∀ (W : World) (v : Value), RowG 3 fClue W v l → _ := fun W v h => sureW_impl m bm v l W h
      have s0 := fun W hb => to_clues_some ad cap l W (liesG_below hL hb) hn
      refine sureWells_walk_of m bm (some ad) cap l w0 hn hL.hbd s0 ?_ ?_
      · exact s1
      · exact s2
    · exact sureWells_walk_long _ _ _ _ _ (by omega) (by have := hL.hlc; have := hL.hcap; omega)
end Go.Proofs.Ytiafmojmanhdoaa
