/- The walk of the law FnExactBestMarket: for every camel, goods and list of markets (nil, too; of whatever length; also what is none): the program answers as the model, and the list stays as it was. No condition. -/
import Derived.Test.YtgmgifgbalcngaaLawBase
import Derived.Test.YtgmgifgbalcngaaCamB
import Derived.Test.YtgmgifgbalcngaaRowsL
import Derived.Test.YtgmgifgbalcngaaLMarket
import Derived.Test.YtgmgifgbalcngaaRMarket
import Derived.Test.YtgmgifgbalcngaaPkM6b
import Derived.Deep.RegionHeld3
import Derived.Deep.DeepCutAuto
namespace Go.Proofs.Ytgmgifgbalcngaa
open Go.ChangeShapes Go.WideShapes Go.ChangeAt Go.RowKit Go.Joins
set_option maxRecDepth 100000
set_option linter.unusedVariables false
set_option linter.unusedSimpArgs false

set_option maxHeartbeats 6400000 in
theorem bestMarket_law (L E : Int) (bL : -9223372036854775808 ≤ L ∧ L ≤ 9223372036854775807) (bE : -9223372036854775808 ≤ E ∧ E ≤ 9223372036854775807) (n d : Int) (bn : -9223372036854775808 ≤ n ∧ n ≤ 9223372036854775807) (bd : -9223372036854775808 ≤ d ∧ d ≤ 9223372036854775807) (a : Option Addr) (cap : Nat) (l : List MarketV) (hn : l.length ≤ 1048576) (hbd : ∀ p ∈ l, ∀ y ∈ fMarket p, -9223372036854775808 ≤ y ∧ y ≤ 9223372036854775807) (w : World)
    (hcopy0 : ∀ W, Below w.heap.size w W → Calls Try.prog 16 #[.slice a l.length cap] W (EndCopyG 62 4 fMarket l W))
    (hs : ∀ (W : World) (v : Value), RowG 4 fMarket W v l → Calls Try.prog 15 #[.agg #[.int .i64 L, .int .i64 E], .agg #[.int .i64 n, .int .i64 d], v] W (fun e w' => e = .returned (.tuple #[.int .i64 ((bmR L E n d l).i), .bool ((bmR L E n d l).f)]) ∧ Below W.heap.size W w')) (hi : ∀ (W : World) (v : Value), RowG 4 fMarket W v l → Calls Try.prog 17 #[.agg #[.int .i64 L, .int .i64 E], .agg #[.int .i64 n, .int .i64 d], v] W (fun e w' => e = .returned (.tuple #[.int .i64 ((bmR L E n d l).i), .bool ((bmR L E n d l).f)]) ∧ Below W.heap.size W w')) :
    Calls Try.prog 4 #[.agg #[.int .i64 L, .int .i64 E], .agg #[.int .i64 n, .int .i64 d], .slice a l.length cap] w fun e w' => e = .returned (.bool true) ∧ Below w.heap.size w w' := by
  have HS := Lib.hid hs
  have HI := Lib.hid hi
  clear hs hi
  have hpos : ¬ (1048576 - (l.length : Int) < 0) := by omega
  have hsz := sz_mkts a l.length cap
  have hn2 : l.length ≤ 9223372036854775807 := by omega
  go_enter Try.func4, Try.ntmps4
  go_wp2_with fail; refine (hsz _ hn2).mono ?_; rintro e w1 ⟨rfl, hb1⟩
  rw [if_pos hn]
  clear hsz
  have c1 : w1.cell? ⟨w.heap.size, 0, none⟩ = some (.int .i64 L) := (hb1.cell (p := ⟨w.heap.size, 0, none⟩) (by first | (simp; done) | (simp; omega))).trans (by first | (simp; done) | (simp [go_sem]; done))
  have c2 : w1.cell? ⟨w.heap.size, 1, none⟩ = some (.int .i64 E) := (hb1.cell (p := ⟨w.heap.size, 1, none⟩) (by first | (simp; done) | (simp; omega))).trans (by first | (simp; done) | (simp [go_sem]; done))
  have c3 : w1.cell? ⟨w.heap.size + 1, 0, none⟩ = some (.int .i64 n) := (hb1.cell (p := ⟨w.heap.size + 1, 0, none⟩) (by first | (simp; done) | (simp; omega))).trans (by first | (simp; done) | (simp [go_sem]; done))
  have c4 : w1.cell? ⟨w.heap.size + 1, 1, none⟩ = some (.int .i64 d) := (hb1.cell (p := ⟨w.heap.size + 1, 1, none⟩) (by first | (simp; done) | (simp; omega))).trans (by first | (simp; done) | (simp [go_sem]; done))
  have hs : w.heap.size + 1 < w1.heap.size := Nat.lt_of_lt_of_le (by simp) hb1.size
  have hbw : Below w.heap.size w w1 := by (repeat (first | with_reducible exact Below.refl _ _ | with_reducible assumption | with_reducible refine balloc ?_ _ | with_reducible refine bdrew ?_ | with_reducible refine below_drewN ?_ _ | with_reducible refine bset ?_ ?_ _ | with_reducible exact Nat.le_refl _ | with_reducible refine bsize ?_ | (dsimp only; refine Nat.le_trans ?_ (Nat.le_add_right _ _)) | with_reducible refine Nat.le_trans ?_ (Nat.le_add_right _ _) | (with_reducible refine bstep ?_ (by assumption))))
  clear hb1
  go_upto_region 5 with fail
  have a0 : w.heap.size < w1.heap.size := by omega
  have a1 : w.heap.size + 1 < w1.heap.size := by omega
  have hcopy : Hid (∀ W, Below w1.heap.size w1 W → Calls Try.prog 16 #[.slice a l.length cap] W (EndCopyG 62 4 fMarket l W)) := Lib.hid (fun W h => hcopy0 W (bstep hbw h))
  have hcopyW := Lib.hid hcopy0
  clear hcopy0
  go_cut [8, 9] (fun s8 s9 wx => s8 = .int .i64 ((bmR L E n d l).i) ∧ s9 = .bool ((bmR L E n d l).f) ∧ Below w1.heap.size w1 wx)
  case first =>
    have hS1 := Lib.hid (fun (W : World) (h : Below w1.heap.size w1 W) => (⟨h, keepa (W0 := w1) h a0 c1, keepa (W0 := w1) h a0 c2, keepa (W0 := w1) h a1 c3, keepa (W0 := w1) h a1 c4⟩ : Below w1.heap.size w1 W ∧ W.cell? ⟨w.heap.size, 0, none⟩ = some (.int .i64 L) ∧ W.cell? ⟨w.heap.size, 1, none⟩ = some (.int .i64 E) ∧ W.cell? ⟨w.heap.size + 1, 0, none⟩ = some (.int .i64 n) ∧ W.cell? ⟨w.heap.size + 1, 1, none⟩ = some (.int .i64 d)))
    go_region_held3 (fun W => Below w1.heap.size w1 W ∧ W.cell? ⟨w.heap.size, 0, none⟩ = some (.int .i64 L) ∧ W.cell? ⟨w.heap.size, 1, none⟩ = some (.int .i64 E) ∧ W.cell? ⟨w.heap.size + 1, 0, none⟩ = some (.int .i64 n) ∧ W.cell? ⟨w.heap.size + 1, 1, none⟩ = some (.int .i64 d)) ((refine hS1.out _ ?_; first | with_reducible assumption | ((repeat (first | with_reducible exact Below.refl _ _ | with_reducible assumption | with_reducible refine balloc ?_ _ | with_reducible refine bdrew ?_ | with_reducible refine below_drewN ?_ _ | with_reducible refine bset ?_ ?_ _ | with_reducible exact Nat.le_refl _ | with_reducible refine bsize ?_ | (dsimp only; refine Nat.le_trans ?_ (Nat.le_add_right _ _)) | with_reducible refine Nat.le_trans ?_ (Nat.le_add_right _ _) | (with_reducible refine bstep ?_ (by assumption)))); done))) (first | (go_at_call 9; refine (toAmt _ _ _).mono ?_; rintro e w3 ⟨rfl, hb3⟩; (first | have hownc := ownsRow_below hownc hb3 | have hownc := ownsRow_below (own_alloc hownc _) hb3 | have hownc := ownsRow_below (own_drew hownc) hb3 | skip); (have f0 := bstep (by first | with_reducible assumption | ((repeat (first | with_reducible exact Below.refl _ _ | with_reducible assumption | with_reducible refine balloc ?_ _ | with_reducible refine bdrew ?_ | with_reducible refine below_drewN ?_ _ | with_reducible refine bset ?_ ?_ _ | with_reducible exact Nat.le_refl _ | with_reducible refine bsize ?_ | (dsimp only; refine Nat.le_trans ?_ (Nat.le_add_right _ _)) | with_reducible refine Nat.le_trans ?_ (Nat.le_add_right _ _) | (with_reducible refine bstep ?_ (by assumption)))); done) : Below w1.heap.size w1 _) hb3); (have f1 := hS1.out _ f0); go_split_ands) | (go_at_call 8; refine (toCam_b _ _ _).mono ?_; rintro e w3 ⟨rfl, hb3⟩; (first | have hownc := ownsRow_below hownc hb3 | have hownc := ownsRow_below (own_alloc hownc _) hb3 | have hownc := ownsRow_below (own_drew hownc) hb3 | skip); (have f0 := bstep (by first | with_reducible assumption | ((repeat (first | with_reducible exact Below.refl _ _ | with_reducible assumption | with_reducible refine balloc ?_ _ | with_reducible refine bdrew ?_ | with_reducible refine below_drewN ?_ _ | with_reducible refine bset ?_ ?_ _ | with_reducible exact Nat.le_refl _ | with_reducible refine bsize ?_ | (dsimp only; refine Nat.le_trans ?_ (Nat.le_add_right _ _)) | with_reducible refine Nat.le_trans ?_ (Nat.le_add_right _ _) | (with_reducible refine bstep ?_ (by assumption)))); done) : Below w1.heap.size w1 _) hb3); (have f1 := hS1.out _ f0); go_split_ands) | (go_at_call 16; refine (hcopy.out _ (by first | with_reducible assumption | ((repeat (first | with_reducible exact Below.refl _ _ | with_reducible assumption | with_reducible refine balloc ?_ _ | with_reducible refine bdrew ?_ | with_reducible refine below_drewN ?_ _ | with_reducible refine bset ?_ ?_ _ | with_reducible exact Nat.le_refl _ | with_reducible refine bsize ?_ | (dsimp only; refine Nat.le_trans ?_ (Nat.le_add_right _ _)) | with_reducible refine Nat.le_trans ?_ (Nat.le_add_right _ _) | (with_reducible refine bstep ?_ (by assumption)))); done))).mono ?_; rintro e w3 ⟨gc, rfl, hownc, hb3⟩; (have f0 := bstep (by first | with_reducible assumption | ((repeat (first | with_reducible exact Below.refl _ _ | with_reducible assumption | with_reducible refine balloc ?_ _ | with_reducible refine bdrew ?_ | with_reducible refine below_drewN ?_ _ | with_reducible refine bset ?_ ?_ _ | with_reducible exact Nat.le_refl _ | with_reducible refine bsize ?_ | (dsimp only; refine Nat.le_trans ?_ (Nat.le_add_right _ _)) | with_reducible refine Nat.le_trans ?_ (Nat.le_add_right _ _) | (with_reducible refine bstep ?_ (by assumption)))); done) : Below w1.heap.size w1 _) hb3); (have f1 := hS1.out _ f0); go_split_ands) | (go_at_call 15; refine Calls.mono (HS.out _ _ ?hrow) ?_; (case hrow => first | exact rowG_own fMarket_len hownc hbd | exact rowG_own fMarket_len (own_alloc hownc _) hbd | exact rowG_own fMarket_len (own_drew hownc) hbd | exact rowG_own fMarket_len (own_alloc (own_alloc hownc _) _) hbd); rintro e w3 ⟨rfl, hb3⟩; (have f0 := bstep (by first | with_reducible assumption | ((repeat (first | with_reducible exact Below.refl _ _ | with_reducible assumption | with_reducible refine balloc ?_ _ | with_reducible refine bdrew ?_ | with_reducible refine below_drewN ?_ _ | with_reducible refine bset ?_ ?_ _ | with_reducible exact Nat.le_refl _ | with_reducible refine bsize ?_ | (dsimp only; refine Nat.le_trans ?_ (Nat.le_add_right _ _)) | with_reducible refine Nat.le_trans ?_ (Nat.le_add_right _ _) | (with_reducible refine bstep ?_ (by assumption)))); done) : Below w1.heap.size w1 _) hb3); (have f1 := hS1.out _ f0); go_split_ands))
    all_goals (go_wp2_with fail; go_meet)
    all_goals refine ⟨rfl, rfl, ?_⟩
    all_goals first | ((repeat (first | with_reducible exact Below.refl _ _ | with_reducible assumption | with_reducible refine balloc ?_ _ | with_reducible refine bdrew ?_ | with_reducible refine below_drewN ?_ _ | with_reducible refine bset ?_ ?_ _ | with_reducible exact Nat.le_refl _ | with_reducible refine bsize ?_ | (dsimp only; refine Nat.le_trans ?_ (Nat.le_add_right _ _)) | with_reducible refine Nat.le_trans ?_ (Nat.le_add_right _ _) | (with_reducible refine bstep ?_ (by assumption)))); done) | (simp [go_sem]; done) | (simp [go_sem]; done) | (simp; omega)
  case rest =>
    obtain ⟨rfl, rfl, hgb⟩ := hcut
    replace c1 := keepa hgb a0 c1
    replace c2 := keepa hgb a0 c2
    replace c3 := keepa hgb a1 c3
    replace c4 := keepa hgb a1 c4
    replace a0 : w.heap.size < wc.heap.size := Nat.lt_of_lt_of_le a0 hgb.size
    replace a1 : w.heap.size + 1 < wc.heap.size := Nat.lt_of_lt_of_le a1 hgb.size
    have hbw2 := bstep hbw hgb
    replace hcopy : Hid (∀ W, Below wc.heap.size wc W → Calls Try.prog 16 #[.slice a l.length cap] W (EndCopyG 62 4 fMarket l W)) := Lib.hid (fun W h => hcopy.out W (bstep hgb h))
    clear hgb hbw
    go_wp2_with fail; refine (hcopy.out _ (by (repeat (first | with_reducible exact Below.refl _ _ | with_reducible assumption | with_reducible refine balloc ?_ _ | with_reducible refine bdrew ?_ | with_reducible refine below_drewN ?_ _ | with_reducible refine bset ?_ ?_ _ | with_reducible exact Nat.le_refl _ | with_reducible refine bsize ?_ | (dsimp only; refine Nat.le_trans ?_ (Nat.le_add_right _ _)) | with_reducible refine Nat.le_trans ?_ (Nat.le_add_right _ _) | (with_reducible refine bstep ?_ (by assumption)))))).mono ?_; rintro e w4 ⟨gx, rfl, hownx, hb4⟩
    have f4 : Below wc.heap.size wc w4 := bstep (by (repeat (first | with_reducible exact Below.refl _ _ | with_reducible assumption | with_reducible refine balloc ?_ _ | with_reducible refine bdrew ?_ | with_reducible refine below_drewN ?_ _ | with_reducible refine bset ?_ ?_ _ | with_reducible exact Nat.le_refl _ | with_reducible refine bsize ?_ | (dsimp only; refine Nat.le_trans ?_ (Nat.le_add_right _ _)) | with_reducible refine Nat.le_trans ?_ (Nat.le_add_right _ _) | (with_reducible refine bstep ?_ (by assumption))))) hb4
    replace c1 := keepa f4 a0 c1
    replace c2 := keepa f4 a0 c2
    replace c3 := keepa f4 a1 c3
    replace c4 := keepa f4 a1 c4
    replace a0 : w.heap.size < w4.heap.size := Nat.lt_of_lt_of_le a0 f4.size
    replace a1 : w.heap.size + 1 < w4.heap.size := Nat.lt_of_lt_of_le a1 f4.size
    replace hbw2 := bstep hbw2 f4
    replace hcopy : Hid (∀ W, Below w4.heap.size w4 W → Calls Try.prog 16 #[.slice a l.length cap] W (EndCopyG 62 4 fMarket l W)) := Lib.hid (fun W h => hcopy.out W (bstep f4 h))
    clear f4 hb4
    go_upto_region 7 with fail
    go_cut [11, 12] (fun s11 s12 wx => s11 = .int .i64 ((bmR L E n d l).i) ∧ s12 = .bool ((bmR L E n d l).f) ∧ Below w4.heap.size w4 wx)
    case first =>
      have hS2 := Lib.hid (fun (W : World) (h : Below w4.heap.size w4 W) => (⟨h, keepa (W0 := w4) h a0 c1, keepa (W0 := w4) h a0 c2, keepa (W0 := w4) h a1 c3, keepa (W0 := w4) h a1 c4⟩ : Below w4.heap.size w4 W ∧ W.cell? ⟨w.heap.size, 0, none⟩ = some (.int .i64 L) ∧ W.cell? ⟨w.heap.size, 1, none⟩ = some (.int .i64 E) ∧ W.cell? ⟨w.heap.size + 1, 0, none⟩ = some (.int .i64 n) ∧ W.cell? ⟨w.heap.size + 1, 1, none⟩ = some (.int .i64 d)))
      go_region_held3 (fun W => Below w4.heap.size w4 W ∧ W.cell? ⟨w.heap.size, 0, none⟩ = some (.int .i64 L) ∧ W.cell? ⟨w.heap.size, 1, none⟩ = some (.int .i64 E) ∧ W.cell? ⟨w.heap.size + 1, 0, none⟩ = some (.int .i64 n) ∧ W.cell? ⟨w.heap.size + 1, 1, none⟩ = some (.int .i64 d)) ((refine hS2.out _ ?_; first | with_reducible assumption | ((repeat (first | with_reducible exact Below.refl _ _ | with_reducible assumption | with_reducible refine balloc ?_ _ | with_reducible refine bdrew ?_ | with_reducible refine below_drewN ?_ _ | with_reducible refine bset ?_ ?_ _ | with_reducible exact Nat.le_refl _ | with_reducible refine bsize ?_ | (dsimp only; refine Nat.le_trans ?_ (Nat.le_add_right _ _)) | with_reducible refine Nat.le_trans ?_ (Nat.le_add_right _ _) | (with_reducible refine bstep ?_ (by assumption)))); done))) (first | (go_at_call 9; refine (toAmt _ _ _).mono ?_; rintro e w3 ⟨rfl, hb3⟩; (have f0 := bstep (by first | with_reducible assumption | ((repeat (first | with_reducible exact Below.refl _ _ | with_reducible assumption | with_reducible refine balloc ?_ _ | with_reducible refine bdrew ?_ | with_reducible refine below_drewN ?_ _ | with_reducible refine bset ?_ ?_ _ | with_reducible exact Nat.le_refl _ | with_reducible refine bsize ?_ | (dsimp only; refine Nat.le_trans ?_ (Nat.le_add_right _ _)) | with_reducible refine Nat.le_trans ?_ (Nat.le_add_right _ _) | (with_reducible refine bstep ?_ (by assumption)))); done) : Below w4.heap.size w4 _) hb3); (have f1 := hS2.out _ f0); go_split_ands) | (go_at_call 8; refine (toCam_b _ _ _).mono ?_; rintro e w3 ⟨rfl, hb3⟩; (have f0 := bstep (by first | with_reducible assumption | ((repeat (first | with_reducible exact Below.refl _ _ | with_reducible assumption | with_reducible refine balloc ?_ _ | with_reducible refine bdrew ?_ | with_reducible refine below_drewN ?_ _ | with_reducible refine bset ?_ ?_ _ | with_reducible exact Nat.le_refl _ | with_reducible refine bsize ?_ | (dsimp only; refine Nat.le_trans ?_ (Nat.le_add_right _ _)) | with_reducible refine Nat.le_trans ?_ (Nat.le_add_right _ _) | (with_reducible refine bstep ?_ (by assumption)))); done) : Below w4.heap.size w4 _) hb3); (have f1 := hS2.out _ f0); go_split_ands) | (go_at_call 17; refine Calls.mono (HI.out _ _ ?hrow) ?_; (case hrow => exact rowG_own fMarket_len (ownsRow_below hownx (by first | with_reducible assumption | ((repeat (first | with_reducible exact Below.refl _ _ | with_reducible assumption | with_reducible refine balloc ?_ _ | with_reducible refine bdrew ?_ | with_reducible refine below_drewN ?_ _ | with_reducible refine bset ?_ ?_ _ | with_reducible exact Nat.le_refl _ | with_reducible refine bsize ?_ | (dsimp only; refine Nat.le_trans ?_ (Nat.le_add_right _ _)) | with_reducible refine Nat.le_trans ?_ (Nat.le_add_right _ _) | (with_reducible refine bstep ?_ (by assumption)))); done))) hbd); rintro e w3 ⟨rfl, hb3⟩; (have f0 := bstep (by first | with_reducible assumption | ((repeat (first | with_reducible exact Below.refl _ _ | with_reducible assumption | with_reducible refine balloc ?_ _ | with_reducible refine bdrew ?_ | with_reducible refine below_drewN ?_ _ | with_reducible refine bset ?_ ?_ _ | with_reducible exact Nat.le_refl _ | with_reducible refine bsize ?_ | (dsimp only; refine Nat.le_trans ?_ (Nat.le_add_right _ _)) | with_reducible refine Nat.le_trans ?_ (Nat.le_add_right _ _) | (with_reducible refine bstep ?_ (by assumption)))); done) : Below w4.heap.size w4 _) hb3); (have f1 := hS2.out _ f0); go_split_ands))
      all_goals (go_wp2_with fail; go_meet)
      all_goals refine ⟨rfl, rfl, ?_⟩
      all_goals first | ((repeat (first | with_reducible exact Below.refl _ _ | with_reducible assumption | with_reducible refine balloc ?_ _ | with_reducible refine bdrew ?_ | with_reducible refine below_drewN ?_ _ | with_reducible refine bset ?_ ?_ _ | with_reducible exact Nat.le_refl _ | with_reducible refine bsize ?_ | (dsimp only; refine Nat.le_trans ?_ (Nat.le_add_right _ _)) | with_reducible refine Nat.le_trans ?_ (Nat.le_add_right _ _) | (with_reducible refine bstep ?_ (by assumption)))); done) | (simp [go_sem]; done) | (simp [go_sem]; done) | (simp; omega)
    case rest =>
      obtain ⟨rfl, rfl, hhb⟩ := hcut
      have hbw := bstep hbw2 hhb
      replace hownx := ownsRow_below hownx hhb
      replace hcopy : Hid (∀ W, Below w.heap.size w W → Calls Try.prog 16 #[.slice a l.length cap] W (EndCopyG 62 4 fMarket l W)) := Lib.hid (fun W h => hcopyW.out W h)
      clear hhb
      go_wp2_with fail; refine (hcopy.out _ (by (repeat (first | with_reducible exact Below.refl _ _ | with_reducible assumption | with_reducible refine balloc ?_ _ | with_reducible refine bdrew ?_ | with_reducible refine below_drewN ?_ _ | with_reducible refine bset ?_ ?_ _ | with_reducible exact Nat.le_refl _ | with_reducible refine bsize ?_ | (dsimp only; refine Nat.le_trans ?_ (Nat.le_add_right _ _)) | with_reducible refine Nat.le_trans ?_ (Nat.le_add_right _ _) | (with_reducible refine bstep ?_ (by assumption)))))).mono ?_; rintro e w8 ⟨gy, rfl, howny, hb8⟩
      have hA8 : Below w.heap.size w w8 := by (repeat (first | with_reducible exact Below.refl _ _ | with_reducible assumption | with_reducible refine balloc ?_ _ | with_reducible refine bdrew ?_ | with_reducible refine below_drewN ?_ _ | with_reducible refine bset ?_ ?_ _ | with_reducible exact Nat.le_refl _ | with_reducible refine bsize ?_ | (dsimp only; refine Nat.le_trans ?_ (Nat.le_add_right _ _)) | with_reducible refine Nat.le_trans ?_ (Nat.le_add_right _ _) | (with_reducible refine bstep ?_ (by assumption))))
      replace hownx := ownsRow_below hownx (bstep (by (repeat (first | with_reducible exact Below.refl _ _ | with_reducible assumption | with_reducible refine balloc ?_ _ | with_reducible refine bdrew ?_ | with_reducible refine below_drewN ?_ _ | with_reducible refine bset ?_ ?_ _ | with_reducible exact Nat.le_refl _ | with_reducible refine bsize ?_ | (dsimp only; refine Nat.le_trans ?_ (Nat.le_add_right _ _)) | with_reducible refine Nat.le_trans ?_ (Nat.le_add_right _ _) | (with_reducible refine bstep ?_ (by assumption))))) hb8)
      clear hb8
      go_wp2_with fail; refine (eqr_mkts _ _ _ _ _ _ hn hownx howny).mono ?_; rintro e w9 ⟨rfl, hb9⟩
      go_wp2
      go_ret
      refine ⟨rfl, ?_⟩
      (repeat (first | with_reducible exact Below.refl _ _ | with_reducible assumption | with_reducible refine balloc ?_ _ | with_reducible refine bdrew ?_ | with_reducible refine below_drewN ?_ _ | with_reducible refine bset ?_ ?_ _ | with_reducible exact Nat.le_refl _ | with_reducible refine bsize ?_ | (dsimp only; refine Nat.le_trans ?_ (Nat.le_add_right _ _)) | with_reducible refine Nat.le_trans ?_ (Nat.le_add_right _ _) | (with_reducible refine bstep ?_ (by assumption))))
theorem bestMarket_long (L E : Int) (bL : -9223372036854775808 ≤ L ∧ L ≤ 9223372036854775807) (bE : -9223372036854775808 ≤ E ∧ E ≤ 9223372036854775807) (n d : Int) (bn : -9223372036854775808 ≤ n ∧ n ≤ 9223372036854775807) (bd : -9223372036854775808 ≤ d ∧ d ≤ 9223372036854775807) (a : Option Addr) (n0 cap : Nat) (w : World) (hn : 1048576 < n0) (hn2 : n0 ≤ 9223372036854775807) :
    Calls Try.prog 4 #[.agg #[.int .i64 L, .int .i64 E], .agg #[.int .i64 n, .int .i64 d], .slice a n0 cap] w fun e w' => e = .returned (.bool true) ∧ Below w.heap.size w w' := by
  have hsz := sz_mkts a n0 cap
  go_enter Try.func4, Try.ntmps4
  go_wp2_with fail; refine (hsz _ hn2).mono ?_; rintro e w1 ⟨rfl, hb1⟩
  rw [if_neg (by omega)]
  go_wp2
  go_ret
  refine ⟨rfl, ?_⟩
  (repeat (first | with_reducible exact Below.refl _ _ | with_reducible assumption | with_reducible refine balloc ?_ _ | with_reducible refine bdrew ?_ | with_reducible refine below_drewN ?_ _ | with_reducible refine bset ?_ ?_ _ | with_reducible exact Nat.le_refl _ | with_reducible refine bsize ?_ | (dsimp only; refine Nat.le_trans ?_ (Nat.le_add_right _ _)) | with_reducible refine Nat.le_trans ?_ (Nat.le_add_right _ _) | (with_reducible refine bstep ?_ (by assumption))))
theorem bestMarket_walk (L E : Int) (bL : -9223372036854775808 ≤ L ∧ L ≤ 9223372036854775807) (bE : -9223372036854775808 ≤ E ∧ E ≤ 9223372036854775807) (n d : Int) (bn : -9223372036854775808 ≤ n ∧ n ≤ 9223372036854775807) (bd : -9223372036854775808 ≤ d ∧ d ≤ 9223372036854775807) (v : Value) (w0 : World) (h : AnyG 4 fMarket w0 v) (w : World) (e : w0 = w := by rfl) :
    Calls Try.prog 4 #[.agg #[.int .i64 L, .int .i64 E], .agg #[.int .i64 n, .int .i64 d], v] w fun e w' => e = .returned (.bool true) ∧ Below w.heap.size w w' := by
  subst e
  rcases h with rfl | ⟨a, cap, l, rfl, hL⟩
  · exact bestMarket_law L E bL bE n d bn bd none 0 [] (by simp) (by simp) w0 (fun W _ => to_mkts_nil W) (fun W v h => bestMarket_spec L E n d bn bd v [] W h) (fun W v h => bestMarket_impl L E n d bn bd v [] W h)
  · by_cases hn : l.length ≤ 1048576
    · exact bestMarket_law L E bL bE n d bn bd (some a) cap l (by omega) hL.hbd w0 (fun W hb => to_mkts_some a cap l W (liesG_below hL hb) (by omega)) (fun W v h => bestMarket_spec L E n d bn bd v l W h) (fun W v h => bestMarket_impl L E n d bn bd v l W h)
    · exact bestMarket_long L E bL bE n d bn bd _ _ _ _ (by omega) (by have := hL.hlc; have := hL.hcap; omega)
end Go.Proofs.Ytgmgifgbalcngaa
