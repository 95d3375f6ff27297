/- The walk of the law FnExactCampsLeft: for every camel, goods and list of camps (nil, too; of whatever length; also what is none): the program answers as the model, the list stays as it was, and the answer owns its memory. No condition. -/
import Derived.Test.YtgmgifgbalcngaaLawBase
import Derived.Test.YtgmgifgbalcngaaCamB
import Derived.Test.YtgmgifgbalcngaaRowsL
import Derived.Test.YtgmgifgbalcngaaLAmount
import Derived.Test.YtgmgifgbalcngaaRAmount
import Derived.Test.YtgmgifgbalcngaaCampS
import Derived.Deep.RegionHeld3
import Derived.Deep.DeepCutAuto
namespace Go.Proofs.Ytgmgifgbalcngaa
open Go.ChangeShapes Go.WideShapes Go.ChangeAt Go.RowKit Go.Joins
set_option maxRecDepth 100000
set_option linter.unusedVariables false
set_option linter.unusedSimpArgs false

set_option maxHeartbeats 6400000 in
theorem campsLeft_law (L E : Int) (bL : -9223372036854775808 ≤ L ∧ L ≤ 9223372036854775807) (bE : -9223372036854775808 ≤ E ∧ E ≤ 9223372036854775807) (n d : Int) (bn : -9223372036854775808 ≤ n ∧ n ≤ 9223372036854775807) (bd : -9223372036854775808 ≤ d ∧ d ≤ 9223372036854775807) (a : Option Addr) (cap : Nat) (l : List (Int × Int)) (hn : l.length ≤ 1048576) (hbd : ∀ p ∈ l, ∀ y ∈ fAmt p, -9223372036854775808 ≤ y ∧ y ≤ 9223372036854775807) (hl3 : l.length ≤ 1048576) (w : World)
    (hcopy0 : ∀ W, Below w.heap.size w W → Calls Try.prog 10 #[.slice a l.length cap] W (EndCopyG 28 2 fAmt l W))
    (hs : ∀ (W : World) (v : Value), RowG 2 fAmt W v l → Calls Try.prog 19 #[.agg #[.int .i64 L, .int .i64 E], .agg #[.int .i64 n, .int .i64 d], v] W (AnsG 28 2 fAmt (clL L E n d l) (clB L E n d l) W)) (hi : ∀ (W : World) (v : Value), RowG 2 fAmt W v l → Calls Try.prog 20 #[.agg #[.int .i64 L, .int .i64 E], .agg #[.int .i64 n, .int .i64 d], v] W (AnsG 28 2 fAmt (clL L E n d l) (clB L E n d l) W)) :
    Calls Try.prog 5 #[.agg #[.int .i64 L, .int .i64 E], .agg #[.int .i64 n, .int .i64 d], .slice a l.length cap] w fun e w' => e = .returned (.bool true) ∧ Below w.heap.size w w' := by
  have HS := Lib.hid hs
  have HI := Lib.hid hi
  clear hs hi
  have hr2 : (clL L E n d l).length ≤ 1048576 := by have := clL_len L E n d l; omega
  have hr3 : (clL L E n d l).length ≤ 1048576 := by have := clL_len L E n d l; omega
  generalize (clL L E n d l) = rl at *
  have hpos : ¬ (1048576 - (l.length : Int) < 0) := by omega
  have hsz := sz_amts a l.length cap
  have hn2 : l.length ≤ 9223372036854775807 := by omega
  go_enter Try.func5, Try.ntmps5
  go_wp2_with fail; refine (hsz _ hn2).mono ?_; rintro e w1 ⟨rfl, hb1⟩
  rw [if_pos hn]
  clear hsz
  have c1 : w1.cell? ⟨w.heap.size, 0, none⟩ = some (.int .i64 L) := (hb1.cell (p := ⟨w.heap.size, 0, none⟩) (by first | (simp; done) | (simp; omega))).trans (by first | (simp; done) | (simp [go_sem]; done))
  have c2 : w1.cell? ⟨w.heap.size, 1, none⟩ = some (.int .i64 E) := (hb1.cell (p := ⟨w.heap.size, 1, none⟩) (by first | (simp; done) | (simp; omega))).trans (by first | (simp; done) | (simp [go_sem]; done))
  have c3 : w1.cell? ⟨w.heap.size + 1, 0, none⟩ = some (.int .i64 n) := (hb1.cell (p := ⟨w.heap.size + 1, 0, none⟩) (by first | (simp; done) | (simp; omega))).trans (by first | (simp; done) | (simp [go_sem]; done))
  have c4 : w1.cell? ⟨w.heap.size + 1, 1, none⟩ = some (.int .i64 d) := (hb1.cell (p := ⟨w.heap.size + 1, 1, none⟩) (by first | (simp; done) | (simp; omega))).trans (by first | (simp; done) | (simp [go_sem]; done))
  have hs : w.heap.size + 1 < w1.heap.size := Nat.lt_of_lt_of_le (by simp) hb1.size
  have hbw : Below w.heap.size w w1 := by (repeat (first | with_reducible exact Below.refl _ _ | with_reducible assumption | with_reducible refine balloc ?_ _ | with_reducible refine bdrew ?_ | with_reducible refine below_drewN ?_ _ | with_reducible refine bset ?_ ?_ _ | with_reducible exact Nat.le_refl _ | with_reducible refine bsize ?_ | (dsimp only; refine Nat.le_trans ?_ (Nat.le_add_right _ _)) | with_reducible refine Nat.le_trans ?_ (Nat.le_add_right _ _) | (with_reducible refine bstep ?_ (by assumption))))
  clear hb1
  go_upto_region 5 with fail
  have a0 : w.heap.size < w1.heap.size := by omega
  have a1 : w.heap.size + 1 < w1.heap.size := by omega
  have hcopy : Hid (∀ W, Below w1.heap.size w1 W → Calls Try.prog 10 #[.slice a l.length cap] W (EndCopyG 28 2 fAmt l W)) := Lib.hid (fun W h => hcopy0 W (bstep hbw h))
  have hcopyW := Lib.hid hcopy0
  clear hcopy0
  have hS1 := Lib.hid (fun (W : World) (h : Below w1.heap.size w1 W) => (⟨h, keepa (W0 := w1) h a0 c1, keepa (W0 := w1) h a0 c2, keepa (W0 := w1) h a1 c3, keepa (W0 := w1) h a1 c4⟩ : Below w1.heap.size w1 W ∧ W.cell? ⟨w.heap.size, 0, none⟩ = some (.int .i64 L) ∧ W.cell? ⟨w.heap.size, 1, none⟩ = some (.int .i64 E) ∧ W.cell? ⟨w.heap.size + 1, 0, none⟩ = some (.int .i64 n) ∧ W.cell? ⟨w.heap.size + 1, 1, none⟩ = some (.int .i64 d)))
  go_region_held3 (fun W => Below w1.heap.size w1 W ∧ W.cell? ⟨w.heap.size, 0, none⟩ = some (.int .i64 L) ∧ W.cell? ⟨w.heap.size, 1, none⟩ = some (.int .i64 E) ∧ W.cell? ⟨w.heap.size + 1, 0, none⟩ = some (.int .i64 n) ∧ W.cell? ⟨w.heap.size + 1, 1, none⟩ = some (.int .i64 d)) ((refine hS1.out _ ?_; first | with_reducible assumption | ((repeat (first | with_reducible exact Below.refl _ _ | with_reducible assumption | with_reducible refine balloc ?_ _ | with_reducible refine bdrew ?_ | with_reducible refine below_drewN ?_ _ | with_reducible refine bset ?_ ?_ _ | with_reducible exact Nat.le_refl _ | with_reducible refine bsize ?_ | (dsimp only; refine Nat.le_trans ?_ (Nat.le_add_right _ _)) | with_reducible refine Nat.le_trans ?_ (Nat.le_add_right _ _) | (with_reducible refine bstep ?_ (by assumption)))); done))) (first | (go_at_call 9; refine (toAmt _ _ _).mono ?_; rintro e w3 ⟨rfl, hb3⟩; (first | have hownc := ownsRow_below hownc hb3 | have hownc := ownsRow_below (own_alloc hownc _) hb3 | have hownc := ownsRow_below (own_drew hownc) hb3 | skip); (have f0 := bstep (by first | with_reducible assumption | ((repeat (first | with_reducible exact Below.refl _ _ | with_reducible assumption | with_reducible refine balloc ?_ _ | with_reducible refine bdrew ?_ | with_reducible refine below_drewN ?_ _ | with_reducible refine bset ?_ ?_ _ | with_reducible exact Nat.le_refl _ | with_reducible refine bsize ?_ | (dsimp only; refine Nat.le_trans ?_ (Nat.le_add_right _ _)) | with_reducible refine Nat.le_trans ?_ (Nat.le_add_right _ _) | (with_reducible refine bstep ?_ (by assumption)))); done) : Below w1.heap.size w1 _) hb3); (have f1 := hS1.out _ f0); go_split_ands) | (go_at_call 8; refine (toCam_b _ _ _).mono ?_; rintro e w3 ⟨rfl, hb3⟩; (first | have hownc := ownsRow_below hownc hb3 | have hownc := ownsRow_below (own_alloc hownc _) hb3 | have hownc := ownsRow_below (own_drew hownc) hb3 | skip); (have f0 := bstep (by first | with_reducible assumption | ((repeat (first | with_reducible exact Below.refl _ _ | with_reducible assumption | with_reducible refine balloc ?_ _ | with_reducible refine bdrew ?_ | with_reducible refine below_drewN ?_ _ | with_reducible refine bset ?_ ?_ _ | with_reducible exact Nat.le_refl _ | with_reducible refine bsize ?_ | (dsimp only; refine Nat.le_trans ?_ (Nat.le_add_right _ _)) | with_reducible refine Nat.le_trans ?_ (Nat.le_add_right _ _) | (with_reducible refine bstep ?_ (by assumption)))); done) : Below w1.heap.size w1 _) hb3); (have f1 := hS1.out _ f0); go_split_ands) | (go_at_call 10; refine (hcopy.out _ (by first | with_reducible assumption | ((repeat (first | with_reducible exact Below.refl _ _ | with_reducible assumption | with_reducible refine balloc ?_ _ | with_reducible refine bdrew ?_ | with_reducible refine below_drewN ?_ _ | with_reducible refine bset ?_ ?_ _ | with_reducible exact Nat.le_refl _ | with_reducible refine bsize ?_ | (dsimp only; refine Nat.le_trans ?_ (Nat.le_add_right _ _)) | with_reducible refine Nat.le_trans ?_ (Nat.le_add_right _ _) | (with_reducible refine bstep ?_ (by assumption)))); done))).mono ?_; rintro e w3 ⟨gc, rfl, hownc, hb3⟩; (have f0 := bstep (by first | with_reducible assumption | ((repeat (first | with_reducible exact Below.refl _ _ | with_reducible assumption | with_reducible refine balloc ?_ _ | with_reducible refine bdrew ?_ | with_reducible refine below_drewN ?_ _ | with_reducible refine bset ?_ ?_ _ | with_reducible exact Nat.le_refl _ | with_reducible refine bsize ?_ | (dsimp only; refine Nat.le_trans ?_ (Nat.le_add_right _ _)) | with_reducible refine Nat.le_trans ?_ (Nat.le_add_right _ _) | (with_reducible refine bstep ?_ (by assumption)))); done) : Below w1.heap.size w1 _) hb3); (have f1 := hS1.out _ f0); go_split_ands) | (go_at_call 19; refine Calls.mono (ansg_at (B := w1) (by first | with_reducible assumption | ((repeat (first | with_reducible exact Below.refl _ _ | with_reducible assumption | with_reducible refine balloc ?_ _ | with_reducible refine bdrew ?_ | with_reducible refine below_drewN ?_ _ | with_reducible refine bset ?_ ?_ _ | with_reducible exact Nat.le_refl _ | with_reducible refine bsize ?_ | (dsimp only; refine Nat.le_trans ?_ (Nat.le_add_right _ _)) | with_reducible refine Nat.le_trans ?_ (Nat.le_add_right _ _) | (with_reducible refine bstep ?_ (by assumption)))); done)) (HS.out _ _ ?hrow)) ?_; (case hrow => first | exact rowG_own fAmt_len hownc hbd | exact rowG_own fAmt_len (own_alloc hownc _) hbd | exact rowG_own fAmt_len (own_drew hownc) hbd | exact rowG_own fAmt_len (own_alloc (own_alloc hownc _) _) hbd); rintro e w2 ⟨vw2, rfl, hownw2, hbn⟩; (have f1 := hS1.out _ hbn); go_split_ands))
  have hA2 := hbn
  clear hbn hS1
  clear hownc
  go_wp2_with fail; refine (hcopy.out _ hA2).mono ?_; rintro e w4 ⟨gx, rfl, hownx, hb4⟩
  have hA4 := bstep hA2 hb4
  have hownx0 := hownx
  have l4 := hA4.size
  have oxw := own_apart hownx hownw2 (Nat.le_refl _)
  have oxw2 := own_apart' hownx hownw2 (Nat.le_refl _)
  have hownw := ownsRow_below hownw2 hb4
  clear hownw2 hb4
  go_upto_region 7 with fail
  have hS2 := Lib.hid (fun (W : World) (h : Below w4.heap.size w4 W) => (⟨h, keepa (W0 := w1) (bstep hA4 h) a0 c1, keepa (W0 := w1) (bstep hA4 h) a0 c2, keepa (W0 := w1) (bstep hA4 h) a1 c3, keepa (W0 := w1) (bstep hA4 h) a1 c4⟩ : Below w4.heap.size w4 W ∧ W.cell? ⟨w.heap.size, 0, none⟩ = some (.int .i64 L) ∧ W.cell? ⟨w.heap.size, 1, none⟩ = some (.int .i64 E) ∧ W.cell? ⟨w.heap.size + 1, 0, none⟩ = some (.int .i64 n) ∧ W.cell? ⟨w.heap.size + 1, 1, none⟩ = some (.int .i64 d)))
  go_region_held3 (fun W => Below w4.heap.size w4 W ∧ W.cell? ⟨w.heap.size, 0, none⟩ = some (.int .i64 L) ∧ W.cell? ⟨w.heap.size, 1, none⟩ = some (.int .i64 E) ∧ W.cell? ⟨w.heap.size + 1, 0, none⟩ = some (.int .i64 n) ∧ W.cell? ⟨w.heap.size + 1, 1, none⟩ = some (.int .i64 d)) ((refine hS2.out _ ?_; first | with_reducible assumption | ((repeat (first | with_reducible exact Below.refl _ _ | with_reducible assumption | with_reducible refine balloc ?_ _ | with_reducible refine bdrew ?_ | with_reducible refine below_drewN ?_ _ | with_reducible refine bset ?_ ?_ _ | with_reducible exact Nat.le_refl _ | with_reducible refine bsize ?_ | (dsimp only; refine Nat.le_trans ?_ (Nat.le_add_right _ _)) | with_reducible refine Nat.le_trans ?_ (Nat.le_add_right _ _) | (with_reducible refine bstep ?_ (by assumption)))); done))) (first | (go_at_call 9; refine (toAmt _ _ _).mono ?_; rintro e w3 ⟨rfl, hb3⟩; (have f0 := bstep (by first | with_reducible assumption | ((repeat (first | with_reducible exact Below.refl _ _ | with_reducible assumption | with_reducible refine balloc ?_ _ | with_reducible refine bdrew ?_ | with_reducible refine below_drewN ?_ _ | with_reducible refine bset ?_ ?_ _ | with_reducible exact Nat.le_refl _ | with_reducible refine bsize ?_ | (dsimp only; refine Nat.le_trans ?_ (Nat.le_add_right _ _)) | with_reducible refine Nat.le_trans ?_ (Nat.le_add_right _ _) | (with_reducible refine bstep ?_ (by assumption)))); done) : Below w4.heap.size w4 _) hb3); (have f1 := hS2.out _ f0); go_split_ands) | (go_at_call 8; refine (toCam_b _ _ _).mono ?_; rintro e w3 ⟨rfl, hb3⟩; (have f0 := bstep (by first | with_reducible assumption | ((repeat (first | with_reducible exact Below.refl _ _ | with_reducible assumption | with_reducible refine balloc ?_ _ | with_reducible refine bdrew ?_ | with_reducible refine below_drewN ?_ _ | with_reducible refine bset ?_ ?_ _ | with_reducible exact Nat.le_refl _ | with_reducible refine bsize ?_ | (dsimp only; refine Nat.le_trans ?_ (Nat.le_add_right _ _)) | with_reducible refine Nat.le_trans ?_ (Nat.le_add_right _ _) | (with_reducible refine bstep ?_ (by assumption)))); done) : Below w4.heap.size w4 _) hb3); (have f1 := hS2.out _ f0); go_split_ands) | (go_at_call 20; refine Calls.mono (ansg_at (B := w4) (by first | with_reducible assumption | ((repeat (first | with_reducible exact Below.refl _ _ | with_reducible assumption | with_reducible refine balloc ?_ _ | with_reducible refine bdrew ?_ | with_reducible refine below_drewN ?_ _ | with_reducible refine bset ?_ ?_ _ | with_reducible exact Nat.le_refl _ | with_reducible refine bsize ?_ | (dsimp only; refine Nat.le_trans ?_ (Nat.le_add_right _ _)) | with_reducible refine Nat.le_trans ?_ (Nat.le_add_right _ _) | (with_reducible refine bstep ?_ (by assumption)))); done)) (HI.out _ _ ?hrow)) ?_; (case hrow => exact rowG_own fAmt_len (ownsRow_below hownx (by first | with_reducible assumption | ((repeat (first | with_reducible exact Below.refl _ _ | with_reducible assumption | with_reducible refine balloc ?_ _ | with_reducible refine bdrew ?_ | with_reducible refine below_drewN ?_ _ | with_reducible refine bset ?_ ?_ _ | with_reducible exact Nat.le_refl _ | with_reducible refine bsize ?_ | (dsimp only; refine Nat.le_trans ?_ (Nat.le_add_right _ _)) | with_reducible refine Nat.le_trans ?_ (Nat.le_add_right _ _) | (with_reducible refine bstep ?_ (by assumption)))); done))) hbd); rintro e w6 ⟨vw6, rfl, hownw6, hbn⟩; (have f1 := hS2.out _ hbn); go_split_ands))
  have hA6 := bstep hA4 hbn
  have ogw := own_apart hownw6 hownw (Nat.le_refl _)
  have ogw2 := own_apart' hownw6 hownw (Nat.le_refl _)
  have ogx := own_apart hownw6 hownx (Nat.le_refl _)
  have ogx2 := own_apart' hownw6 hownx (Nat.le_refl _)
  have lg : w1.heap.size ≤ w4.heap.size := hA4.size
  replace hownw := ownsRow_below hownw hbn
  replace hownx := ownsRow_below hownx hbn
  have howng := hownw6
  clear hownw6 hbn hS2 hA4
  go_wp2_with fail; refine (eqr_amts _ _ _ _ _ _ hr2 howng hownw).mono ?_; rintro e w7 ⟨rfl, hb7⟩
  have hA7 := bstep hA6 hb7
  replace hownw := ownsRow_below hownw hb7
  replace hownx := ownsRow_below hownx hb7
  replace howng := ownsRow_below howng hb7
  clear hb7 hA6
  go_wp2_with fail; refine (hcopy.out _ hA7).mono ?_; rintro e w8 ⟨gy, rfl, howny, hb8⟩
  have hA8 := bstep hA7 hb8
  replace hownw := ownsRow_below hownw hb8
  replace hownx := ownsRow_below hownx hb8
  replace howng := ownsRow_below howng hb8
  clear hb8 hA7
  go_wp2_with fail; refine (eqr_amts _ _ _ _ _ _ hn hownx howny).mono ?_; rintro e w9 ⟨rfl, hb9⟩
  have hA9 := bstep hA8 hb9
  replace hownw := ownsRow_below hownw hb9
  replace hownx := ownsRow_below hownx hb9
  replace howng := ownsRow_below howng hb9
  clear howny hb9 hA8
  have hneg1 : ¬ (1 + 2 * (l.length : Int) < 0) := by omega
  have lx : w1.heap.size ≤ w2.heap.size := hA2.size
  go_wp2_with fail; refine (markr_amts _ _ _ 1 _ _ hl3 (by omega) (by omega) hownx).mono ?_; rintro e w10 ⟨rfl, hgr, ysN, hN, hall⟩
  have hA10 : Below w1.heap.size w1 w10 := hA9.grown hgr hA9.size (fun k e => Nat.le_trans lx (hownx.lt k e).1)
  replace hownw := hownw.kept hgr oxw2
  replace howng := howng.kept hgr ogx
  have HYN := Lib.hid hall
  clear hgr hall hownx hA9
  go_wp2_with fail; refine (eqr_amts _ _ _ _ _ _ hr2 howng hownw).mono ?_; rintro e w11 ⟨rfl, hb11⟩
  have hA11 := bstep hA10 hb11
  replace hownw := ownsRow_below hownw hb11
  replace howng := ownsRow_below howng hb11
  clear hb11 hA10
  go_wp2_with fail; refine (markr_amts _ _ _ 1 _ _ hr3 (by omega) (by omega) howng).mono ?_; rintro e w12 ⟨rfl, hgr, ysM, hM, hall⟩
  have hA12 : Below w1.heap.size w1 w12 := hA11.grown hgr hA11.size (fun k e => Nat.le_trans lg (howng.lt k e).1)
  replace hownw := hownw.kept hgr ogw2
  have HYM := Lib.hid hall
  clear hgr hall howng hA11
  have hneg : ¬ (1 + 2 * (rl.length : Int) < 0) := by omega
  go_wp2_with fail; refine (heldr_amts _ _ _ 1 _ _ hr3 (by omega) (by omega) hM HYM.out).mono ?_; rintro e w13 ⟨rfl, hb13⟩
  have hA13 := bstep hA12 hb13
  replace hownw := ownsRow_below hownw hb13
  replace hM := ownsRow_below hM hb13
  clear hb13 hA12
  go_upto_region 24 with fail
  have hS3 := Lib.hid (fun (W : World) (h : Below w13.heap.size w13 W) => (⟨h, keepa (W0 := w1) (bstep hA13 h) a0 c1, keepa (W0 := w1) (bstep hA13 h) a0 c2, keepa (W0 := w1) (bstep hA13 h) a1 c3, keepa (W0 := w1) (bstep hA13 h) a1 c4⟩ : Below w13.heap.size w13 W ∧ W.cell? ⟨w.heap.size, 0, none⟩ = some (.int .i64 L) ∧ W.cell? ⟨w.heap.size, 1, none⟩ = some (.int .i64 E) ∧ W.cell? ⟨w.heap.size + 1, 0, none⟩ = some (.int .i64 n) ∧ W.cell? ⟨w.heap.size + 1, 1, none⟩ = some (.int .i64 d)))
  go_region_held3 (fun W => Below w13.heap.size w13 W ∧ W.cell? ⟨w.heap.size, 0, none⟩ = some (.int .i64 L) ∧ W.cell? ⟨w.heap.size, 1, none⟩ = some (.int .i64 E) ∧ W.cell? ⟨w.heap.size + 1, 0, none⟩ = some (.int .i64 n) ∧ W.cell? ⟨w.heap.size + 1, 1, none⟩ = some (.int .i64 d)) ((refine hS3.out _ ?_; first | with_reducible assumption | ((repeat (first | with_reducible exact Below.refl _ _ | with_reducible assumption | with_reducible refine balloc ?_ _ | with_reducible refine bdrew ?_ | with_reducible refine below_drewN ?_ _ | with_reducible refine bset ?_ ?_ _ | with_reducible exact Nat.le_refl _ | with_reducible refine bsize ?_ | (dsimp only; refine Nat.le_trans ?_ (Nat.le_add_right _ _)) | with_reducible refine Nat.le_trans ?_ (Nat.le_add_right _ _) | (with_reducible refine bstep ?_ (by assumption)))); done))) (first | (go_at_call 9; refine (toAmt _ _ _).mono ?_; rintro e w3 ⟨rfl, hb3⟩; (first | have hownc := ownsRow_below hownc hb3 | have hownc := ownsRow_below (own_alloc hownc _) hb3 | have hownc := ownsRow_below (own_drew hownc) hb3 | skip); (have f0 := bstep (by first | with_reducible assumption | ((repeat (first | with_reducible exact Below.refl _ _ | with_reducible assumption | with_reducible refine balloc ?_ _ | with_reducible refine bdrew ?_ | with_reducible refine below_drewN ?_ _ | with_reducible refine bset ?_ ?_ _ | with_reducible exact Nat.le_refl _ | with_reducible refine bsize ?_ | (dsimp only; refine Nat.le_trans ?_ (Nat.le_add_right _ _)) | with_reducible refine Nat.le_trans ?_ (Nat.le_add_right _ _) | (with_reducible refine bstep ?_ (by assumption)))); done) : Below w13.heap.size w13 _) hb3); (have f1 := hS3.out _ f0); go_split_ands) | (go_at_call 8; refine (toCam_b _ _ _).mono ?_; rintro e w3 ⟨rfl, hb3⟩; (first | have hownc := ownsRow_below hownc hb3 | have hownc := ownsRow_below (own_alloc hownc _) hb3 | have hownc := ownsRow_below (own_drew hownc) hb3 | skip); (have f0 := bstep (by first | with_reducible assumption | ((repeat (first | with_reducible exact Below.refl _ _ | with_reducible assumption | with_reducible refine balloc ?_ _ | with_reducible refine bdrew ?_ | with_reducible refine below_drewN ?_ _ | with_reducible refine bset ?_ ?_ _ | with_reducible exact Nat.le_refl _ | with_reducible refine bsize ?_ | (dsimp only; refine Nat.le_trans ?_ (Nat.le_add_right _ _)) | with_reducible refine Nat.le_trans ?_ (Nat.le_add_right _ _) | (with_reducible refine bstep ?_ (by assumption)))); done) : Below w13.heap.size w13 _) hb3); (have f1 := hS3.out _ f0); go_split_ands) | (go_at_call 10; refine (hcopy.out _ (bstep hA13 (by first | with_reducible assumption | ((repeat (first | with_reducible exact Below.refl _ _ | with_reducible assumption | with_reducible refine balloc ?_ _ | with_reducible refine bdrew ?_ | with_reducible refine below_drewN ?_ _ | with_reducible refine bset ?_ ?_ _ | with_reducible exact Nat.le_refl _ | with_reducible refine bsize ?_ | (dsimp only; refine Nat.le_trans ?_ (Nat.le_add_right _ _)) | with_reducible refine Nat.le_trans ?_ (Nat.le_add_right _ _) | (with_reducible refine bstep ?_ (by assumption)))); done)))).mono ?_; rintro e w3 ⟨gc, rfl, hownc, hb3⟩; (have f0 := bstep (by first | with_reducible assumption | ((repeat (first | with_reducible exact Below.refl _ _ | with_reducible assumption | with_reducible refine balloc ?_ _ | with_reducible refine bdrew ?_ | with_reducible refine below_drewN ?_ _ | with_reducible refine bset ?_ ?_ _ | with_reducible exact Nat.le_refl _ | with_reducible refine bsize ?_ | (dsimp only; refine Nat.le_trans ?_ (Nat.le_add_right _ _)) | with_reducible refine Nat.le_trans ?_ (Nat.le_add_right _ _) | (with_reducible refine bstep ?_ (by assumption)))); done) : Below w13.heap.size w13 _) hb3); (have f1 := hS3.out _ f0); go_split_ands) | (go_at_call 20; refine Calls.mono (ansg_at (B := w13) (by first | with_reducible assumption | ((repeat (first | with_reducible exact Below.refl _ _ | with_reducible assumption | with_reducible refine balloc ?_ _ | with_reducible refine bdrew ?_ | with_reducible refine below_drewN ?_ _ | with_reducible refine bset ?_ ?_ _ | with_reducible exact Nat.le_refl _ | with_reducible refine bsize ?_ | (dsimp only; refine Nat.le_trans ?_ (Nat.le_add_right _ _)) | with_reducible refine Nat.le_trans ?_ (Nat.le_add_right _ _) | (with_reducible refine bstep ?_ (by assumption)))); done)) (HI.out _ _ ?hrow)) ?_; (case hrow => first | exact rowG_own fAmt_len hownc hbd | exact rowG_own fAmt_len (own_alloc hownc _) hbd | exact rowG_own fAmt_len (own_drew hownc) hbd | exact rowG_own fAmt_len (own_alloc (own_alloc hownc _) _) hbd); rintro e w20 ⟨vw20, rfl, hownw20, hbn⟩; (have f1 := hS3.out _ hbn); go_split_ands))
  have hA20 := bstep hA13 hbn
  replace hownw := ownsRow_below hownw hbn
  replace hM := ownsRow_below hM hbn
  clear hbn hS3 hA13
  go_wp2_with fail; refine (eqr_amts _ _ _ _ _ _ hr2 hownw20 hownw).mono ?_; rintro e w21 ⟨rfl, hb21⟩
  have hA21 := bstep hA20 hb21
  replace hownw := ownsRow_below hownw hb21
  replace hM := ownsRow_below hM hb21
  clear hb21 hA20
  go_wp2_with fail; refine (heldr_amts _ _ _ 1 _ _ hr3 (by omega) (by omega) hM HYM.out).mono ?_; rintro e w22 ⟨rfl, hb22⟩
  have hA22 := bstep hA21 hb22
  replace hM := ownsRow_below hM hb22
  clear hb22 hA21
  go_wp2
  go_ret
  exact ⟨rfl, bstep hbw hA22⟩
theorem campsLeft_long (L E : Int) (bL : -9223372036854775808 ≤ L ∧ L ≤ 9223372036854775807) (bE : -9223372036854775808 ≤ E ∧ E ≤ 9223372036854775807) (n d : Int) (bn : -9223372036854775808 ≤ n ∧ n ≤ 9223372036854775807) (bd : -9223372036854775808 ≤ d ∧ d ≤ 9223372036854775807) (a : Option Addr) (n0 cap : Nat) (w : World) (hn : 1048576 < n0) (hn2 : n0 ≤ 9223372036854775807) :
    Calls Try.prog 5 #[.agg #[.int .i64 L, .int .i64 E], .agg #[.int .i64 n, .int .i64 d], .slice a n0 cap] w fun e w' => e = .returned (.bool true) ∧ Below w.heap.size w w' := by
  have hsz := sz_amts a n0 cap
  go_enter Try.func5, Try.ntmps5
  go_wp2_with fail; refine (hsz _ hn2).mono ?_; rintro e w1 ⟨rfl, hb1⟩
  rw [if_neg (by omega)]
  go_wp2
  go_ret
  refine ⟨rfl, ?_⟩
  (repeat (first | with_reducible exact Below.refl _ _ | with_reducible assumption | with_reducible refine balloc ?_ _ | with_reducible refine bdrew ?_ | with_reducible refine below_drewN ?_ _ | with_reducible refine bset ?_ ?_ _ | with_reducible exact Nat.le_refl _ | with_reducible refine bsize ?_ | (dsimp only; refine Nat.le_trans ?_ (Nat.le_add_right _ _)) | with_reducible refine Nat.le_trans ?_ (Nat.le_add_right _ _) | (with_reducible refine bstep ?_ (by assumption))))
theorem campsLeft_walk (L E : Int) (bL : -9223372036854775808 ≤ L ∧ L ≤ 9223372036854775807) (bE : -9223372036854775808 ≤ E ∧ E ≤ 9223372036854775807) (n d : Int) (bn : -9223372036854775808 ≤ n ∧ n ≤ 9223372036854775807) (bd : -9223372036854775808 ≤ d ∧ d ≤ 9223372036854775807) (v : Value) (w0 : World) (h : AnyG 2 fAmt w0 v) (w : World) (e : w0 = w := by rfl) :
    Calls Try.prog 5 #[.agg #[.int .i64 L, .int .i64 E], .agg #[.int .i64 n, .int .i64 d], v] w fun e w' => e = .returned (.bool true) ∧ Below w.heap.size w w' := by
  subst e
  rcases h with rfl | ⟨a, cap, l, rfl, hL⟩
  · exact campsLeft_law L E bL bE n d bn bd none 0 [] (by simp) (by simp) (by simp) w0 (fun W _ => to_amts_nil W) (fun W v h => camps_spec_row L E n d bn bd v [] W h) (fun W v h => camps_impl_row L E n d bn bd v [] W h)
  · by_cases hn : l.length ≤ 1048576
    · exact campsLeft_law L E bL bE n d bn bd (some a) cap l (by omega) hL.hbd hn w0 (fun W hb => to_amts_some a cap l W (liesG_below hL hb) (by omega)) (fun W v h => camps_spec_row L E n d bn bd v l W h) (fun W v h => camps_impl_row L E n d bn bd v l W h)
    · exact campsLeft_long L E bL bE n d bn bd _ _ _ _ (by omega) (by have := hL.hlc; have := hL.hcap; omega)
end Go.Proofs.Ytgmgifgbalcngaa
