/- The law FnExactStopsOf: for every camel and goods (also what is none): the program answers as the model, and its answer owns its memory. No condition. -/
import Derived.Test.YtkignanlkakdpaaLawBase
import Derived.Test.YtkignanlkakdpaaCamB
import Derived.Test.YtkignanlkakdpaaAns2
import Derived.Test.YtkignanlkakdpaaOAmount
import Derived.Test.YtkignanlkakdpaaQAmount
import Derived.Test.YtkignanlkakdpaaCamX
import Derived.Deep.RegionHeld3
import Derived.Deep.DeepCutAuto
namespace Go.Proofs.Ytkignanlkakdpaa
open Go.ChangeShapes Go.WideShapes Go.ChangeAt Go.RowKit Go.Joins
set_option maxRecDepth 100000
set_option linter.unusedVariables false
set_option linter.unusedSimpArgs false

set_option maxHeartbeats 3200000 in
theorem stops_law_nil (L E n d : Int) (b : Bool) (hs : ∀ W, Calls Try.prog 33 #[.agg #[.int .i64 L, .int .i64 E], .agg #[.int .i64 n, .int .i64 d]] W (EndN b W)) (hi : ∀ W, Calls Try.prog 34 #[.agg #[.int .i64 L, .int .i64 E], .agg #[.int .i64 n, .int .i64 d]] W (EndN b W)) (w : World) :
    Calls Try.prog 9 #[.agg #[.int .i64 L, .int .i64 E], .agg #[.int .i64 n, .int .i64 d]] w fun e w' => e = .returned (.bool true) ∧ Below w.heap.size w w' := by
  have HS := Lib.hid hs
  have HI := Lib.hid hi
  clear hs hi
  go_enter Try.func9, Try.ntmps9
  go_upto_region 1 with fail
  change Code.wp _ _ _ _ (((w.alloc (.cells #[.int .i64 L, .int .i64 E] 23)).alloc (.cells #[.int .i64 n, .int .i64 d] 29)))
  have c1 : (((w.alloc (.cells #[.int .i64 L, .int .i64 E] 23)).alloc (.cells #[.int .i64 n, .int .i64 d] 29))).cell? ⟨w.heap.size, 0, none⟩ = some (.int .i64 L) := by first | (simp; done) | (simp [go_sem]; done)
  have c2 : (((w.alloc (.cells #[.int .i64 L, .int .i64 E] 23)).alloc (.cells #[.int .i64 n, .int .i64 d] 29))).cell? ⟨w.heap.size, 1, none⟩ = some (.int .i64 E) := by first | (simp; done) | (simp [go_sem]; done)
  have c3 : (((w.alloc (.cells #[.int .i64 L, .int .i64 E] 23)).alloc (.cells #[.int .i64 n, .int .i64 d] 29))).cell? ⟨w.heap.size + 1, 0, none⟩ = some (.int .i64 n) := by first | (simp; done) | (simp [go_sem]; done)
  have c4 : (((w.alloc (.cells #[.int .i64 L, .int .i64 E] 23)).alloc (.cells #[.int .i64 n, .int .i64 d] 29))).cell? ⟨w.heap.size + 1, 1, none⟩ = some (.int .i64 d) := by first | (simp; done) | (simp [go_sem]; done)
  have hs : w.heap.size + 1 < (((w.alloc (.cells #[.int .i64 L, .int .i64 E] 23)).alloc (.cells #[.int .i64 n, .int .i64 d] 29))).heap.size := by simp
  have hbw : Below w.heap.size w (((w.alloc (.cells #[.int .i64 L, .int .i64 E] 23)).alloc (.cells #[.int .i64 n, .int .i64 d] 29))) := by (repeat (first | with_reducible exact Below.refl _ _ | with_reducible assumption | with_reducible refine balloc ?_ _ | with_reducible refine bdrew ?_ | with_reducible refine below_drewN ?_ _ | with_reducible refine bset ?_ ?_ _ | with_reducible exact Nat.le_refl _ | with_reducible refine bsize ?_ | (dsimp only; refine Nat.le_trans ?_ (Nat.le_add_right _ _)) | with_reducible refine Nat.le_trans ?_ (Nat.le_add_right _ _) | (with_reducible refine bstep ?_ (by assumption))))
  generalize (((w.alloc (.cells #[.int .i64 L, .int .i64 E] 23)).alloc (.cells #[.int .i64 n, .int .i64 d] 29))) = V at *
  have a0 : w.heap.size < V.heap.size := by omega
  have a1 : w.heap.size + 1 < V.heap.size := by omega
  have hS1 := Lib.hid (fun (W : World) (h : Below V.heap.size V W) => (⟨h, keepa (W0 := V) h a0 c1, keepa (W0 := V) h a0 c2, keepa (W0 := V) h a1 c3, keepa (W0 := V) h a1 c4⟩ : Below V.heap.size V W ∧ W.cell? ⟨w.heap.size, 0, none⟩ = some (.int .i64 L) ∧ W.cell? ⟨w.heap.size, 1, none⟩ = some (.int .i64 E) ∧ W.cell? ⟨w.heap.size + 1, 0, none⟩ = some (.int .i64 n) ∧ W.cell? ⟨w.heap.size + 1, 1, none⟩ = some (.int .i64 d)))
  go_region_held3 (fun W => Below V.heap.size V W ∧ W.cell? ⟨w.heap.size, 0, none⟩ = some (.int .i64 L) ∧ W.cell? ⟨w.heap.size, 1, none⟩ = some (.int .i64 E) ∧ W.cell? ⟨w.heap.size + 1, 0, none⟩ = some (.int .i64 n) ∧ W.cell? ⟨w.heap.size + 1, 1, none⟩ = some (.int .i64 d)) ((refine hS1.out _ ?_; first | with_reducible assumption | ((repeat (first | with_reducible exact Below.refl _ _ | with_reducible assumption | with_reducible refine balloc ?_ _ | with_reducible refine bdrew ?_ | with_reducible refine below_drewN ?_ _ | with_reducible refine bset ?_ ?_ _ | with_reducible exact Nat.le_refl _ | with_reducible refine bsize ?_ | (dsimp only; refine Nat.le_trans ?_ (Nat.le_add_right _ _)) | with_reducible refine Nat.le_trans ?_ (Nat.le_add_right _ _) | (with_reducible refine bstep ?_ (by assumption)))); done))) (first | (go_at_call 22; refine (toAmt _ _ _).mono ?_; rintro e w3 ⟨rfl, hb3⟩; (have f0 := bstep (by first | with_reducible assumption | ((repeat (first | with_reducible exact Below.refl _ _ | with_reducible assumption | with_reducible refine balloc ?_ _ | with_reducible refine bdrew ?_ | with_reducible refine below_drewN ?_ _ | with_reducible refine bset ?_ ?_ _ | with_reducible exact Nat.le_refl _ | with_reducible refine bsize ?_ | (dsimp only; refine Nat.le_trans ?_ (Nat.le_add_right _ _)) | with_reducible refine Nat.le_trans ?_ (Nat.le_add_right _ _) | (with_reducible refine bstep ?_ (by assumption)))); done) : Below V.heap.size V _) hb3); (have f1 := hS1.out _ f0); go_split_ands) | (go_at_call 19; refine (toCam_b _ _ _).mono ?_; rintro e w3 ⟨rfl, hb3⟩; (have f0 := bstep (by first | with_reducible assumption | ((repeat (first | with_reducible exact Below.refl _ _ | with_reducible assumption | with_reducible refine balloc ?_ _ | with_reducible refine bdrew ?_ | with_reducible refine below_drewN ?_ _ | with_reducible refine bset ?_ ?_ _ | with_reducible exact Nat.le_refl _ | with_reducible refine bsize ?_ | (dsimp only; refine Nat.le_trans ?_ (Nat.le_add_right _ _)) | with_reducible refine Nat.le_trans ?_ (Nat.le_add_right _ _) | (with_reducible refine bstep ?_ (by assumption)))); done) : Below V.heap.size V _) hb3); (have f1 := hS1.out _ f0); go_split_ands) | (go_at_call 33; refine (endn_at (B := V) (by first | with_reducible assumption | ((repeat (first | with_reducible exact Below.refl _ _ | with_reducible assumption | with_reducible refine balloc ?_ _ | with_reducible refine bdrew ?_ | with_reducible refine below_drewN ?_ _ | with_reducible refine bset ?_ ?_ _ | with_reducible exact Nat.le_refl _ | with_reducible refine bsize ?_ | (dsimp only; refine Nat.le_trans ?_ (Nat.le_add_right _ _)) | with_reducible refine Nat.le_trans ?_ (Nat.le_add_right _ _) | (with_reducible refine bstep ?_ (by assumption)))); done)) (HS.out _)).mono ?_; rintro e w2 ⟨a2, k2, rfl, hbn⟩; (have f1 := hS1.out _ hbn); go_split_ands))
  have hA2 := hbn
  clear hbn
  go_upto_region 2 with fail
  have hS2 := Lib.hid (fun (W : World) (h : Below w2.heap.size w2 W) => (⟨h, keepa (W0 := V) (bstep hA2 h) a0 c1, keepa (W0 := V) (bstep hA2 h) a0 c2, keepa (W0 := V) (bstep hA2 h) a1 c3, keepa (W0 := V) (bstep hA2 h) a1 c4⟩ : Below w2.heap.size w2 W ∧ W.cell? ⟨w.heap.size, 0, none⟩ = some (.int .i64 L) ∧ W.cell? ⟨w.heap.size, 1, none⟩ = some (.int .i64 E) ∧ W.cell? ⟨w.heap.size + 1, 0, none⟩ = some (.int .i64 n) ∧ W.cell? ⟨w.heap.size + 1, 1, none⟩ = some (.int .i64 d)))
  go_region_held3 (fun W => Below w2.heap.size w2 W ∧ W.cell? ⟨w.heap.size, 0, none⟩ = some (.int .i64 L) ∧ W.cell? ⟨w.heap.size, 1, none⟩ = some (.int .i64 E) ∧ W.cell? ⟨w.heap.size + 1, 0, none⟩ = some (.int .i64 n) ∧ W.cell? ⟨w.heap.size + 1, 1, none⟩ = some (.int .i64 d)) ((refine hS2.out _ ?_; first | with_reducible assumption | ((repeat (first | with_reducible exact Below.refl _ _ | with_reducible assumption | with_reducible refine balloc ?_ _ | with_reducible refine bdrew ?_ | with_reducible refine below_drewN ?_ _ | with_reducible refine bset ?_ ?_ _ | with_reducible exact Nat.le_refl _ | with_reducible refine bsize ?_ | (dsimp only; refine Nat.le_trans ?_ (Nat.le_add_right _ _)) | with_reducible refine Nat.le_trans ?_ (Nat.le_add_right _ _) | (with_reducible refine bstep ?_ (by assumption)))); done))) (first | (go_at_call 22; refine (toAmt _ _ _).mono ?_; rintro e w3 ⟨rfl, hb3⟩; (have f0 := bstep (by first | with_reducible assumption | ((repeat (first | with_reducible exact Below.refl _ _ | with_reducible assumption | with_reducible refine balloc ?_ _ | with_reducible refine bdrew ?_ | with_reducible refine below_drewN ?_ _ | with_reducible refine bset ?_ ?_ _ | with_reducible exact Nat.le_refl _ | with_reducible refine bsize ?_ | (dsimp only; refine Nat.le_trans ?_ (Nat.le_add_right _ _)) | with_reducible refine Nat.le_trans ?_ (Nat.le_add_right _ _) | (with_reducible refine bstep ?_ (by assumption)))); done) : Below w2.heap.size w2 _) hb3); (have f1 := hS2.out _ f0); go_split_ands) | (go_at_call 19; refine (toCam_b _ _ _).mono ?_; rintro e w3 ⟨rfl, hb3⟩; (have f0 := bstep (by first | with_reducible assumption | ((repeat (first | with_reducible exact Below.refl _ _ | with_reducible assumption | with_reducible refine balloc ?_ _ | with_reducible refine bdrew ?_ | with_reducible refine below_drewN ?_ _ | with_reducible refine bset ?_ ?_ _ | with_reducible exact Nat.le_refl _ | with_reducible refine bsize ?_ | (dsimp only; refine Nat.le_trans ?_ (Nat.le_add_right _ _)) | with_reducible refine Nat.le_trans ?_ (Nat.le_add_right _ _) | (with_reducible refine bstep ?_ (by assumption)))); done) : Below w2.heap.size w2 _) hb3); (have f1 := hS2.out _ f0); go_split_ands) | (go_at_call 34; refine (endn_at (B := w2) (by first | with_reducible assumption | ((repeat (first | with_reducible exact Below.refl _ _ | with_reducible assumption | with_reducible refine balloc ?_ _ | with_reducible refine bdrew ?_ | with_reducible refine below_drewN ?_ _ | with_reducible refine bset ?_ ?_ _ | with_reducible exact Nat.le_refl _ | with_reducible refine bsize ?_ | (dsimp only; refine Nat.le_trans ?_ (Nat.le_add_right _ _)) | with_reducible refine Nat.le_trans ?_ (Nat.le_add_right _ _) | (with_reducible refine bstep ?_ (by assumption)))); done)) (HI.out _)).mono ?_; rintro e w4 ⟨a4, k4, rfl, hbn⟩; (have f1 := hS2.out _ hbn); go_split_ands))
  have hA4 := bstep hA2 hbn
  clear hbn hS1 hS2
  go_wp2_with fail; refine (eq_amts_nil _ _ _ _ _).mono ?_; rintro e w5 ⟨rfl, hb5⟩
  have hA5 := bstep hA4 hb5
  go_wp2_with fail; refine (mark_amts_nil _ _ _ _).mono ?_; rintro e w6 ⟨rfl, hb6⟩
  have hA6 := bstep hA5 hb6
  go_wp2_with fail; refine (held_amts_nil _ _ _ _).mono ?_; rintro e w7 ⟨rfl, hb7⟩
  have hA7 := bstep hA6 hb7
  clear hb5 hb6 hb7
  go_upto_region 13 with fail
  have hS3 := Lib.hid (fun (W : World) (h : Below w7.heap.size w7 W) => (⟨h, keepa (W0 := V) (bstep hA7 h) a0 c1, keepa (W0 := V) (bstep hA7 h) a0 c2, keepa (W0 := V) (bstep hA7 h) a1 c3, keepa (W0 := V) (bstep hA7 h) a1 c4⟩ : Below w7.heap.size w7 W ∧ W.cell? ⟨w.heap.size, 0, none⟩ = some (.int .i64 L) ∧ W.cell? ⟨w.heap.size, 1, none⟩ = some (.int .i64 E) ∧ W.cell? ⟨w.heap.size + 1, 0, none⟩ = some (.int .i64 n) ∧ W.cell? ⟨w.heap.size + 1, 1, none⟩ = some (.int .i64 d)))
  go_region_held3 (fun W => Below w7.heap.size w7 W ∧ W.cell? ⟨w.heap.size, 0, none⟩ = some (.int .i64 L) ∧ W.cell? ⟨w.heap.size, 1, none⟩ = some (.int .i64 E) ∧ W.cell? ⟨w.heap.size + 1, 0, none⟩ = some (.int .i64 n) ∧ W.cell? ⟨w.heap.size + 1, 1, none⟩ = some (.int .i64 d)) ((refine hS3.out _ ?_; first | with_reducible assumption | ((repeat (first | with_reducible exact Below.refl _ _ | with_reducible assumption | with_reducible refine balloc ?_ _ | with_reducible refine bdrew ?_ | with_reducible refine below_drewN ?_ _ | with_reducible refine bset ?_ ?_ _ | with_reducible exact Nat.le_refl _ | with_reducible refine bsize ?_ | (dsimp only; refine Nat.le_trans ?_ (Nat.le_add_right _ _)) | with_reducible refine Nat.le_trans ?_ (Nat.le_add_right _ _) | (with_reducible refine bstep ?_ (by assumption)))); done))) (first | (go_at_call 22; refine (toAmt _ _ _).mono ?_; rintro e w3 ⟨rfl, hb3⟩; (have f0 := bstep (by first | with_reducible assumption | ((repeat (first | with_reducible exact Below.refl _ _ | with_reducible assumption | with_reducible refine balloc ?_ _ | with_reducible refine bdrew ?_ | with_reducible refine below_drewN ?_ _ | with_reducible refine bset ?_ ?_ _ | with_reducible exact Nat.le_refl _ | with_reducible refine bsize ?_ | (dsimp only; refine Nat.le_trans ?_ (Nat.le_add_right _ _)) | with_reducible refine Nat.le_trans ?_ (Nat.le_add_right _ _) | (with_reducible refine bstep ?_ (by assumption)))); done) : Below w7.heap.size w7 _) hb3); (have f1 := hS3.out _ f0); go_split_ands) | (go_at_call 19; refine (toCam_b _ _ _).mono ?_; rintro e w3 ⟨rfl, hb3⟩; (have f0 := bstep (by first | with_reducible assumption | ((repeat (first | with_reducible exact Below.refl _ _ | with_reducible assumption | with_reducible refine balloc ?_ _ | with_reducible refine bdrew ?_ | with_reducible refine below_drewN ?_ _ | with_reducible refine bset ?_ ?_ _ | with_reducible exact Nat.le_refl _ | with_reducible refine bsize ?_ | (dsimp only; refine Nat.le_trans ?_ (Nat.le_add_right _ _)) | with_reducible refine Nat.le_trans ?_ (Nat.le_add_right _ _) | (with_reducible refine bstep ?_ (by assumption)))); done) : Below w7.heap.size w7 _) hb3); (have f1 := hS3.out _ f0); go_split_ands) | (go_at_call 34; refine (endn_at (B := w7) (by first | with_reducible assumption | ((repeat (first | with_reducible exact Below.refl _ _ | with_reducible assumption | with_reducible refine balloc ?_ _ | with_reducible refine bdrew ?_ | with_reducible refine below_drewN ?_ _ | with_reducible refine bset ?_ ?_ _ | with_reducible exact Nat.le_refl _ | with_reducible refine bsize ?_ | (dsimp only; refine Nat.le_trans ?_ (Nat.le_add_right _ _)) | with_reducible refine Nat.le_trans ?_ (Nat.le_add_right _ _) | (with_reducible refine bstep ?_ (by assumption)))); done)) (HI.out _)).mono ?_; rintro e w9 ⟨a9, k9, rfl, hbn⟩; (have f1 := hS3.out _ hbn); go_split_ands))
  have hA9 := bstep hA7 hbn
  clear hbn hS3
  go_wp2_with fail; refine (eq_amts_nil _ _ _ _ _).mono ?_; rintro e w10 ⟨rfl, hb10⟩
  have hA10 := bstep hA9 hb10
  go_wp2_with fail; refine (held_amts_nil _ _ _ _).mono ?_; rintro e w11 ⟨rfl, hb11⟩
  have hA11 := bstep hA10 hb11
  go_wp2
  go_ret
  exact ⟨rfl, bstep hbw hA11⟩

set_option maxHeartbeats 3200000 in
theorem stops_law_some (L E n d : Int) (b : Bool) (l : List (Int × Int)) (hl : l.length ≤ 1000) (hs : ∀ W, Calls Try.prog 33 #[.agg #[.int .i64 L, .int .i64 E], .agg #[.int .i64 n, .int .i64 d]] W (EndG 32 2 fAmt l b W)) (hi : ∀ W, Calls Try.prog 34 #[.agg #[.int .i64 L, .int .i64 E], .agg #[.int .i64 n, .int .i64 d]] W (EndG 32 2 fAmt l b W)) (w : World) :
    Calls Try.prog 9 #[.agg #[.int .i64 L, .int .i64 E], .agg #[.int .i64 n, .int .i64 d]] w fun e w' => e = .returned (.bool true) ∧ Below w.heap.size w w' := by
  have hl2 : l.length ≤ 1048576 := by omega
  have hl3 : l.length ≤ 1048576 := by omega
  have HS := Lib.hid hs
  have HI := Lib.hid hi
  clear hs hi
  go_enter Try.func9, Try.ntmps9
  go_upto_region 1 with fail
  change Code.wp _ _ _ _ (((w.alloc (.cells #[.int .i64 L, .int .i64 E] 23)).alloc (.cells #[.int .i64 n, .int .i64 d] 29)))
  have c1 : (((w.alloc (.cells #[.int .i64 L, .int .i64 E] 23)).alloc (.cells #[.int .i64 n, .int .i64 d] 29))).cell? ⟨w.heap.size, 0, none⟩ = some (.int .i64 L) := by first | (simp; done) | (simp [go_sem]; done)
  have c2 : (((w.alloc (.cells #[.int .i64 L, .int .i64 E] 23)).alloc (.cells #[.int .i64 n, .int .i64 d] 29))).cell? ⟨w.heap.size, 1, none⟩ = some (.int .i64 E) := by first | (simp; done) | (simp [go_sem]; done)
  have c3 : (((w.alloc (.cells #[.int .i64 L, .int .i64 E] 23)).alloc (.cells #[.int .i64 n, .int .i64 d] 29))).cell? ⟨w.heap.size + 1, 0, none⟩ = some (.int .i64 n) := by first | (simp; done) | (simp [go_sem]; done)
  have c4 : (((w.alloc (.cells #[.int .i64 L, .int .i64 E] 23)).alloc (.cells #[.int .i64 n, .int .i64 d] 29))).cell? ⟨w.heap.size + 1, 1, none⟩ = some (.int .i64 d) := by first | (simp; done) | (simp [go_sem]; done)
  have hs : w.heap.size + 1 < (((w.alloc (.cells #[.int .i64 L, .int .i64 E] 23)).alloc (.cells #[.int .i64 n, .int .i64 d] 29))).heap.size := by simp
  have hbw : Below w.heap.size w (((w.alloc (.cells #[.int .i64 L, .int .i64 E] 23)).alloc (.cells #[.int .i64 n, .int .i64 d] 29))) := by (repeat (first | with_reducible exact Below.refl _ _ | with_reducible assumption | with_reducible refine balloc ?_ _ | with_reducible refine bdrew ?_ | with_reducible refine below_drewN ?_ _ | with_reducible refine bset ?_ ?_ _ | with_reducible exact Nat.le_refl _ | with_reducible refine bsize ?_ | (dsimp only; refine Nat.le_trans ?_ (Nat.le_add_right _ _)) | with_reducible refine Nat.le_trans ?_ (Nat.le_add_right _ _) | (with_reducible refine bstep ?_ (by assumption))))
  generalize (((w.alloc (.cells #[.int .i64 L, .int .i64 E] 23)).alloc (.cells #[.int .i64 n, .int .i64 d] 29))) = V at *
  have a0 : w.heap.size < V.heap.size := by omega
  have a1 : w.heap.size + 1 < V.heap.size := by omega
  have hS1 := Lib.hid (fun (W : World) (h : Below V.heap.size V W) => (⟨h, keepa (W0 := V) h a0 c1, keepa (W0 := V) h a0 c2, keepa (W0 := V) h a1 c3, keepa (W0 := V) h a1 c4⟩ : Below V.heap.size V W ∧ W.cell? ⟨w.heap.size, 0, none⟩ = some (.int .i64 L) ∧ W.cell? ⟨w.heap.size, 1, none⟩ = some (.int .i64 E) ∧ W.cell? ⟨w.heap.size + 1, 0, none⟩ = some (.int .i64 n) ∧ W.cell? ⟨w.heap.size + 1, 1, none⟩ = some (.int .i64 d)))
  go_region_held3 (fun W => Below V.heap.size V W ∧ W.cell? ⟨w.heap.size, 0, none⟩ = some (.int .i64 L) ∧ W.cell? ⟨w.heap.size, 1, none⟩ = some (.int .i64 E) ∧ W.cell? ⟨w.heap.size + 1, 0, none⟩ = some (.int .i64 n) ∧ W.cell? ⟨w.heap.size + 1, 1, none⟩ = some (.int .i64 d)) ((refine hS1.out _ ?_; first | with_reducible assumption | ((repeat (first | with_reducible exact Below.refl _ _ | with_reducible assumption | with_reducible refine balloc ?_ _ | with_reducible refine bdrew ?_ | with_reducible refine below_drewN ?_ _ | with_reducible refine bset ?_ ?_ _ | with_reducible exact Nat.le_refl _ | with_reducible refine bsize ?_ | (dsimp only; refine Nat.le_trans ?_ (Nat.le_add_right _ _)) | with_reducible refine Nat.le_trans ?_ (Nat.le_add_right _ _) | (with_reducible refine bstep ?_ (by assumption)))); done))) (first | (go_at_call 22; refine (toAmt _ _ _).mono ?_; rintro e w3 ⟨rfl, hb3⟩; (have f0 := bstep (by first | with_reducible assumption | ((repeat (first | with_reducible exact Below.refl _ _ | with_reducible assumption | with_reducible refine balloc ?_ _ | with_reducible refine bdrew ?_ | with_reducible refine below_drewN ?_ _ | with_reducible refine bset ?_ ?_ _ | with_reducible exact Nat.le_refl _ | with_reducible refine bsize ?_ | (dsimp only; refine Nat.le_trans ?_ (Nat.le_add_right _ _)) | with_reducible refine Nat.le_trans ?_ (Nat.le_add_right _ _) | (with_reducible refine bstep ?_ (by assumption)))); done) : Below V.heap.size V _) hb3); (have f1 := hS1.out _ f0); go_split_ands) | (go_at_call 19; refine (toCam_b _ _ _).mono ?_; rintro e w3 ⟨rfl, hb3⟩; (have f0 := bstep (by first | with_reducible assumption | ((repeat (first | with_reducible exact Below.refl _ _ | with_reducible assumption | with_reducible refine balloc ?_ _ | with_reducible refine bdrew ?_ | with_reducible refine below_drewN ?_ _ | with_reducible refine bset ?_ ?_ _ | with_reducible exact Nat.le_refl _ | with_reducible refine bsize ?_ | (dsimp only; refine Nat.le_trans ?_ (Nat.le_add_right _ _)) | with_reducible refine Nat.le_trans ?_ (Nat.le_add_right _ _) | (with_reducible refine bstep ?_ (by assumption)))); done) : Below V.heap.size V _) hb3); (have f1 := hS1.out _ f0); go_split_ands) | (go_at_call 33; refine (ends_at (B := V) (by first | with_reducible assumption | ((repeat (first | with_reducible exact Below.refl _ _ | with_reducible assumption | with_reducible refine balloc ?_ _ | with_reducible refine bdrew ?_ | with_reducible refine below_drewN ?_ _ | with_reducible refine bset ?_ ?_ _ | with_reducible exact Nat.le_refl _ | with_reducible refine bsize ?_ | (dsimp only; refine Nat.le_trans ?_ (Nat.le_add_right _ _)) | with_reducible refine Nat.le_trans ?_ (Nat.le_add_right _ _) | (with_reducible refine bstep ?_ (by assumption)))); done)) (HS.out _)).mono ?_; rintro e w2 ⟨g2, k2, rfl, hown2, hbn⟩; (have f1 := hS1.out _ hbn); go_split_ands))
  have hA2 := hbn
  clear hbn
  go_upto_region 2 with fail
  have hS2 := Lib.hid (fun (W : World) (h : Below w2.heap.size w2 W) => (⟨h, keepa (W0 := V) (bstep hA2 h) a0 c1, keepa (W0 := V) (bstep hA2 h) a0 c2, keepa (W0 := V) (bstep hA2 h) a1 c3, keepa (W0 := V) (bstep hA2 h) a1 c4⟩ : Below w2.heap.size w2 W ∧ W.cell? ⟨w.heap.size, 0, none⟩ = some (.int .i64 L) ∧ W.cell? ⟨w.heap.size, 1, none⟩ = some (.int .i64 E) ∧ W.cell? ⟨w.heap.size + 1, 0, none⟩ = some (.int .i64 n) ∧ W.cell? ⟨w.heap.size + 1, 1, none⟩ = some (.int .i64 d)))
  go_region_held3 (fun W => Below w2.heap.size w2 W ∧ W.cell? ⟨w.heap.size, 0, none⟩ = some (.int .i64 L) ∧ W.cell? ⟨w.heap.size, 1, none⟩ = some (.int .i64 E) ∧ W.cell? ⟨w.heap.size + 1, 0, none⟩ = some (.int .i64 n) ∧ W.cell? ⟨w.heap.size + 1, 1, none⟩ = some (.int .i64 d)) ((refine hS2.out _ ?_; first | with_reducible assumption | ((repeat (first | with_reducible exact Below.refl _ _ | with_reducible assumption | with_reducible refine balloc ?_ _ | with_reducible refine bdrew ?_ | with_reducible refine below_drewN ?_ _ | with_reducible refine bset ?_ ?_ _ | with_reducible exact Nat.le_refl _ | with_reducible refine bsize ?_ | (dsimp only; refine Nat.le_trans ?_ (Nat.le_add_right _ _)) | with_reducible refine Nat.le_trans ?_ (Nat.le_add_right _ _) | (with_reducible refine bstep ?_ (by assumption)))); done))) (first | (go_at_call 22; refine (toAmt _ _ _).mono ?_; rintro e w3 ⟨rfl, hb3⟩; (have f0 := bstep (by first | with_reducible assumption | ((repeat (first | with_reducible exact Below.refl _ _ | with_reducible assumption | with_reducible refine balloc ?_ _ | with_reducible refine bdrew ?_ | with_reducible refine below_drewN ?_ _ | with_reducible refine bset ?_ ?_ _ | with_reducible exact Nat.le_refl _ | with_reducible refine bsize ?_ | (dsimp only; refine Nat.le_trans ?_ (Nat.le_add_right _ _)) | with_reducible refine Nat.le_trans ?_ (Nat.le_add_right _ _) | (with_reducible refine bstep ?_ (by assumption)))); done) : Below w2.heap.size w2 _) hb3); (have f1 := hS2.out _ f0); go_split_ands) | (go_at_call 19; refine (toCam_b _ _ _).mono ?_; rintro e w3 ⟨rfl, hb3⟩; (have f0 := bstep (by first | with_reducible assumption | ((repeat (first | with_reducible exact Below.refl _ _ | with_reducible assumption | with_reducible refine balloc ?_ _ | with_reducible refine bdrew ?_ | with_reducible refine below_drewN ?_ _ | with_reducible refine bset ?_ ?_ _ | with_reducible exact Nat.le_refl _ | with_reducible refine bsize ?_ | (dsimp only; refine Nat.le_trans ?_ (Nat.le_add_right _ _)) | with_reducible refine Nat.le_trans ?_ (Nat.le_add_right _ _) | (with_reducible refine bstep ?_ (by assumption)))); done) : Below w2.heap.size w2 _) hb3); (have f1 := hS2.out _ f0); go_split_ands) | (go_at_call 34; refine (ends_at (B := w2) (by first | with_reducible assumption | ((repeat (first | with_reducible exact Below.refl _ _ | with_reducible assumption | with_reducible refine balloc ?_ _ | with_reducible refine bdrew ?_ | with_reducible refine below_drewN ?_ _ | with_reducible refine bset ?_ ?_ _ | with_reducible exact Nat.le_refl _ | with_reducible refine bsize ?_ | (dsimp only; refine Nat.le_trans ?_ (Nat.le_add_right _ _)) | with_reducible refine Nat.le_trans ?_ (Nat.le_add_right _ _) | (with_reducible refine bstep ?_ (by assumption)))); done)) (HI.out _)).mono ?_; rintro e w4 ⟨g4, k4, rfl, hown4, hbn⟩; (have f1 := hS2.out _ hbn); go_split_ands))
  have hA4 := bstep hA2 hbn
  have s2 : g2 < w2.heap.size := own_lt hown2 rfl
  have l4 : w2.heap.size ≤ g4 := own_block hown4 rfl
  have l4w : V.heap.size ≤ g4 := Nat.le_trans hA2.size l4
  have n42 : g4 ≠ g2 := by omega
  replace hown2 := ownsRow_below hown2 hbn
  clear hbn hA2 s2 l4 hS1 hS2
  go_wp2_with fail; refine (eq_amts _ _ _ _ _ _ _ _ hl2 hown4 hown2).mono ?_; rintro e w5 ⟨rfl, hb5⟩
  have hA5 := bstep hA4 hb5
  replace hown2 := ownsRow_below hown2 hb5
  replace hown4 := ownsRow_below hown4 hb5
  clear hb5 hA4
  go_wp2_with fail; refine (mark_amts_some _ _ _ _ 1 _ _ hl3 (by omega) (by omega) hown4).mono ?_; rintro e w6 ⟨rfl, hgr, ys, hown6, hall⟩
  have hA6 : Below V.heap.size V w6 := hA5.grown hgr hA5.size (fun k e => by cases e; exact l4w)
  replace hown2 := hown2.kept hgr (Or.inr (fun e => n42 (Option.some.inj e).symm))
  have HY := Lib.hid hall
  clear hgr hall hown4 hA5
  have hneg : ¬ (1 + 2 * (l.length : Int) < 0) := by omega
  go_wp2_with fail; refine (held_amts_some _ _ _ _ 1 _ _ hl3 (by omega) (by omega) hown6 HY.out).mono ?_; rintro e w7 ⟨rfl, hb7⟩
  have hA7 := bstep hA6 hb7
  replace hown2 := ownsRow_below hown2 hb7
  replace hown6 := ownsRow_below hown6 hb7
  clear hb7 hA6
  go_upto_region 13 with fail
  have hS3 := Lib.hid (fun (W : World) (h : Below w7.heap.size w7 W) => (⟨h, keepa (W0 := V) (bstep hA7 h) a0 c1, keepa (W0 := V) (bstep hA7 h) a0 c2, keepa (W0 := V) (bstep hA7 h) a1 c3, keepa (W0 := V) (bstep hA7 h) a1 c4⟩ : Below w7.heap.size w7 W ∧ W.cell? ⟨w.heap.size, 0, none⟩ = some (.int .i64 L) ∧ W.cell? ⟨w.heap.size, 1, none⟩ = some (.int .i64 E) ∧ W.cell? ⟨w.heap.size + 1, 0, none⟩ = some (.int .i64 n) ∧ W.cell? ⟨w.heap.size + 1, 1, none⟩ = some (.int .i64 d)))
  go_region_held3 (fun W => Below w7.heap.size w7 W ∧ W.cell? ⟨w.heap.size, 0, none⟩ = some (.int .i64 L) ∧ W.cell? ⟨w.heap.size, 1, none⟩ = some (.int .i64 E) ∧ W.cell? ⟨w.heap.size + 1, 0, none⟩ = some (.int .i64 n) ∧ W.cell? ⟨w.heap.size + 1, 1, none⟩ = some (.int .i64 d)) ((refine hS3.out _ ?_; first | with_reducible assumption | ((repeat (first | with_reducible exact Below.refl _ _ | with_reducible assumption | with_reducible refine balloc ?_ _ | with_reducible refine bdrew ?_ | with_reducible refine below_drewN ?_ _ | with_reducible refine bset ?_ ?_ _ | with_reducible exact Nat.le_refl _ | with_reducible refine bsize ?_ | (dsimp only; refine Nat.le_trans ?_ (Nat.le_add_right _ _)) | with_reducible refine Nat.le_trans ?_ (Nat.le_add_right _ _) | (with_reducible refine bstep ?_ (by assumption)))); done))) (first | (go_at_call 22; refine (toAmt _ _ _).mono ?_; rintro e w3 ⟨rfl, hb3⟩; (have f0 := bstep (by first | with_reducible assumption | ((repeat (first | with_reducible exact Below.refl _ _ | with_reducible assumption | with_reducible refine balloc ?_ _ | with_reducible refine bdrew ?_ | with_reducible refine below_drewN ?_ _ | with_reducible refine bset ?_ ?_ _ | with_reducible exact Nat.le_refl _ | with_reducible refine bsize ?_ | (dsimp only; refine Nat.le_trans ?_ (Nat.le_add_right _ _)) | with_reducible refine Nat.le_trans ?_ (Nat.le_add_right _ _) | (with_reducible refine bstep ?_ (by assumption)))); done) : Below w7.heap.size w7 _) hb3); (have f1 := hS3.out _ f0); go_split_ands) | (go_at_call 19; refine (toCam_b _ _ _).mono ?_; rintro e w3 ⟨rfl, hb3⟩; (have f0 := bstep (by first | with_reducible assumption | ((repeat (first | with_reducible exact Below.refl _ _ | with_reducible assumption | with_reducible refine balloc ?_ _ | with_reducible refine bdrew ?_ | with_reducible refine below_drewN ?_ _ | with_reducible refine bset ?_ ?_ _ | with_reducible exact Nat.le_refl _ | with_reducible refine bsize ?_ | (dsimp only; refine Nat.le_trans ?_ (Nat.le_add_right _ _)) | with_reducible refine Nat.le_trans ?_ (Nat.le_add_right _ _) | (with_reducible refine bstep ?_ (by assumption)))); done) : Below w7.heap.size w7 _) hb3); (have f1 := hS3.out _ f0); go_split_ands) | (go_at_call 34; refine (ends_at (B := w7) (by first | with_reducible assumption | ((repeat (first | with_reducible exact Below.refl _ _ | with_reducible assumption | with_reducible refine balloc ?_ _ | with_reducible refine bdrew ?_ | with_reducible refine below_drewN ?_ _ | with_reducible refine bset ?_ ?_ _ | with_reducible exact Nat.le_refl _ | with_reducible refine bsize ?_ | (dsimp only; refine Nat.le_trans ?_ (Nat.le_add_right _ _)) | with_reducible refine Nat.le_trans ?_ (Nat.le_add_right _ _) | (with_reducible refine bstep ?_ (by assumption)))); done)) (HI.out _)).mono ?_; rintro e w9 ⟨g9, k9, rfl, hown9, hbn⟩; (have f1 := hS3.out _ hbn); go_split_ands))
  have hA9 := bstep hA7 hbn
  replace hown2 := ownsRow_below hown2 hbn
  replace hown6 := ownsRow_below hown6 hbn
  clear hbn hA7 hS3
  go_wp2_with fail; refine (eq_amts _ _ _ _ _ _ _ _ hl2 hown9 hown2).mono ?_; rintro e w10 ⟨rfl, hb10⟩
  have hA10 := bstep hA9 hb10
  replace hown6 := ownsRow_below hown6 hb10
  clear hb10 hA9 hown2 hown9
  go_wp2_with fail; refine (held_amts_some _ _ _ _ 1 _ _ hl3 (by omega) (by omega) hown6 HY.out).mono ?_; rintro e w11 ⟨rfl, hb11⟩
  have hA11 := bstep hA10 hb11
  clear hown6 hb11 hA10
  go_wp2
  go_ret
  exact ⟨rfl, bstep hbw hA11⟩

theorem stops_walk (L E : Int) (bL : -9223372036854775808 ≤ L ∧ L ≤ 9223372036854775807) (bE : -9223372036854775808 ≤ E ∧ E ≤ 9223372036854775807) (n d : Int) (bn : -9223372036854775808 ≤ n ∧ n ≤ 9223372036854775807) (bd : -9223372036854775808 ≤ d ∧ d ≤ 9223372036854775807) (w : World) :
    Calls Try.prog 9 #[.agg #[.int .i64 L, .int .i64 E], .agg #[.int .i64 n, .int .i64 d]] w fun e w' => e = .returned (.bool true) ∧ Below w.heap.size w w' := by
  by_cases h : soL L E n d = []
  · exact stops_law_nil L E n d (askB L E n d) (fun W => (stops_spec L E n d bn bd W).mono fun e w' hp => ans_nil h hp) (fun W => (stops_impl L E n d bn bd W).mono fun e w' hp => ans_nil h hp) w
  · exact stops_law_some L E n d (askB L E n d) _ (so_len L E n d) (fun W => (stops_spec L E n d bn bd W).mono fun e w' hp => ans_some h hp) (fun W => (stops_impl L E n d bn bd W).mono fun e w' hp => ans_some h hp) w
namespace fnExactStopsOf
set_option maxRecDepth 100000 in
theorem lifted (os : Os) (started : os.Started) (H : Type) (enc : TypeId × Value → H) :
    ReturnsInHanded {} Try.checked os 9 .any (Rows.fnExactStopsOfSpec.pre6 enc Try.prog Try.f9 Rows.fnExactStopsOfRow.domain false) (Rows.fnExactStopsOfSpec.post enc Try.prog Try.f9 false true false false) := by
  refine returnsInHanded_of_change (C := Try.checked) own started (by kernel_rfl) Try.func9
    (ChangeSpec.witness6 (enc := enc) (C := Try.checked) false ⟨#[], #[.agg #[.int .i64 0, .int .i64 0], .agg #[.int .i64 0, .int .i64 0]], []⟩ 8 (by kernel_rfl) (by kernel_rfl) (by kernel_rfl) (by kernel_rfl)) ?_
  intro W base args ds gs before hval0 hW hcnd _
  have hval : ∀ (j : Nat) t v, Try.f9.params[j]? = some t → args[j]? = some v → Value.okWide Try.prog W .any base t v := hval0
  have hW' := hW
  obtain ⟨p, q, hA0, hV, rfl, hfz, hnd⟩ := hW
  have hA : DataW.TrodAll enc Try.prog W 0 (fun _ => true) true Try.f9.params.toList args.toList ds p := hA0
  rw [Try.params9] at hA hval
  obtain ⟨v0, vs0, d0, ds0, p0, q0, hargs, rfl, rfl, h0, r0⟩ := trodAll_cons hA
  obtain ⟨v1, vs1, d1, ds1, p1, q1, rfl, rfl, rfl, h1, r1⟩ := trodAll_cons r0
  obtain ⟨rfl, rfl, rfl⟩ := trodAll_nil r1
  obtain rfl : args = #[v0, v1] := by cases args; simp_all
  obtain ⟨rfl, rfl⟩ := trodVars_none hV
  have k0 := h0
  have lt0 : ∀ x ∈ p0, x.block < W.heap.size := by obtain ⟨m, hm⟩ := k0; exact DataW.trod_lt m _ _ _ hm
  have k1 := h1
  have lt1 : ∀ x ∈ p1, x.block < W.heap.size := by obtain ⟨m, hm⟩ := k1; exact DataW.trod_lt m _ _ _ hm
  obtain ⟨n0, m0, rfl, bn0, bm0⟩ := open_cam (hval 0 23 v0 rfl rfl) h0
  obtain ⟨n1, m1, rfl, bn1, bm1⟩ := open_amt (hval 1 29 v1 rfl rfl) h1
  clear hA0 hval0
  refine (stops_walk n0 m0 bn0 bm0 n1 m1 bn1 bm1 W).mono fun e W1 ⟨he, bel⟩ => ?_
  subst he
  exact ⟨_, rfl, _, _, _, [], _, [], hW', trodAll_mk1 (shut_bool Try.underlying4 _), (trodAll_cons_mk (Below.trod laidOut (by kernel_rfl) (of_decide_eq_true (by kernel_rfl)) k0 bel lt0) (trodAll_cons_mk (Below.trod laidOut (by kernel_rfl) (of_decide_eq_true (by kernel_rfl)) k1 bel lt1) trodAll_mk0)), rfl, bel.frame _, fun h => by cases h⟩
theorem over : Rows.fnExactStopsOfRow.holds Try.pinned (OpenSpec.ofChange Rows.fnExactStopsOfSpec) :=
  OpenClaim.holds_of_wide 9 Try.f9 rfl rfl rfl rfl rfl rfl rfl ⟨rfl, rfl, rfl, rfl, rfl⟩ rfl rfl rfl rfl rfl (by kernel_rfl) Try.func9 (by kernel_rfl)
    (of_decide_eq_true (by kernel_rfl)) (by unfold Func.isWrapper; first | (rw [if_pos (by decide +kernel)]; kernel_rfl) | (rw [if_neg (by decide +kernel)]; exact ⟨rfl, rfl⟩))
    (fun os started H enc _ => lifted os started H enc)
theorem proved : Rows.FnExactStopsOfSaid := over
end fnExactStopsOf
end Go.Proofs.Ytkignanlkakdpaa
