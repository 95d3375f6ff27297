/- The walk of the law FnHelpersTurn. -/
import Derived.Test.YtgpbkjakmbmccaaHtT
import Derived.Test.YtgpbkjakmbmccaaXe
import Derived.Test.YtgpbkjakmbmccaaLawBase
import Derived.Test.YtgpbkjakmbmccaaCamM
import Derived.Test.YtgpbkjakmbmccaaCurE
namespace Go.Proofs.Ytgpbkjakmbmccaa
open Go.ChangeShapes Go.WideShapes Go.ChangeAt Go.RowKit Go.Joins
set_option maxRecDepth 100000
set_option linter.unusedVariables false
set_option linter.unusedSimpArgs false

set_option maxHeartbeats 6400000 in
theorem htd_walk (u : Value) (w0 : World) (hu0 : BytesAt w0 u) (v : Value) (w00 : World) (hv0 : BytesAt w00 v) (wS : World) (ew : w0 = wS := by rfl) (ew2 : w00 = wS := by rfl) :
    Calls Try.prog 5 #[u, v] wS fun e w' => e = .returned (.bool true) ∧ Below wS.heap.size wS w' := by
  subst ew
  subst ew2
  have HB := Lib.hid (big_c u v w00 hu0 hv0)
  have HP := Lib.hid (fun W h => drawBack_c u W (bytesAt_below hu0 (show Below w00.heap.size w00 W from h)))
  clear hu0 hv0
  go_enter Try.func5, Try.ntmps5
  go_wp2_with fail; refine HB.out.mono ?_; rintro e wb ⟨⟨bb, rfl⟩, hbb⟩
  cases bb
  · go_wp2_with fail; refine (HP.out _ hbb).mono ?_; rintro e w ⟨⟨n, rfl, hx⟩, hbd⟩
    replace hbd := bstep hbb hbd
    clear hbb HP HB
    cases hn : inB n 1 20
    · as_aux_lemma =>
        have bn : -9223372036854775808 ≤ n ∧ n ≤ 9223372036854775807 := by omega
        clear hx
        have HBackReachi := fun W => BackReach_impl n bn W
        simp only [shX, shY, reX, reY, hn, Bool.false_eq_true, if_false] at HBackReachi
        have HReturnReachi := fun W => ReturnReach_impl n bn W
        simp only [shX, shY, reX, reY, hn, Bool.false_eq_true, if_false] at HReturnReachi
        have HLastFulli := fun W => LastFull_impl n bn W
        simp only [shX, shY, reX, reY, hn, Bool.false_eq_true, if_false] at HLastFulli
        have HDrivenByAlli := fun W => DrivenByAll_impl n bn W
        simp only [shX, shY, reX, reY, hn, Bool.false_eq_true, if_false] at HDrivenByAlli
        have HStayReachi := fun W => StayReach_impl n  W
        simp only [shX, shY, reX, reY, hn, Bool.false_eq_true, if_false] at HStayReachi
        have HBackStopsi := fun W => backStops_impl n bn W
        simp only [hn, bkL_no n hn] at HBackStopsi
        have HStayStopsi := fun W => stayStops_impl n bn W
        simp only [hn, hsL_no n hn] at HStayStopsi
        have HBackReachs := fun W => BackReach_spec n  W
        simp only [shX, shY, reX, reY, hn, Bool.false_eq_true, if_false] at HBackReachs
        have HReturnReachs := fun W => ReturnReach_spec n  W
        simp only [shX, shY, reX, reY, hn, Bool.false_eq_true, if_false] at HReturnReachs
        have HLastFulls := fun W => LastFull_spec n  W
        simp only [shX, shY, reX, reY, hn, Bool.false_eq_true, if_false] at HLastFulls
        have HDrivenByAlls := fun W => DrivenByAll_spec n  W
        simp only [shX, shY, reX, reY, hn, Bool.false_eq_true, if_false] at HDrivenByAlls
        have HStayReachs := fun W => StayReach_spec n  W
        simp only [shX, shY, reX, reY, hn, Bool.false_eq_true, if_false] at HStayReachs
        have HBackStopss := fun W => backStops_spec n bn W
        simp only [hn, bkL_no n hn] at HBackStopss
        have HStayStopss := fun W => stayStops_spec n bn W
        simp only [hn, hsL_no n hn] at HStayStopss
        replace HBackReachi := Lib.hid HBackReachi
        replace HReturnReachi := Lib.hid HReturnReachi
        replace HLastFulli := Lib.hid HLastFulli
        replace HDrivenByAlli := Lib.hid HDrivenByAlli
        replace HStayReachi := Lib.hid HStayReachi
        replace HBackStopsi := Lib.hid HBackStopsi
        replace HStayStopsi := Lib.hid HStayStopsi
        replace HBackReachs := Lib.hid HBackReachs
        replace HReturnReachs := Lib.hid HReturnReachs
        replace HLastFulls := Lib.hid HLastFulls
        replace HDrivenByAlls := Lib.hid HDrivenByAlls
        replace HStayReachs := Lib.hid HStayReachs
        replace HBackStopss := Lib.hid HBackStopss
        replace HStayStopss := Lib.hid HStayStopss
        clear hn
        have bq0 : Below w.heap.size w w := Below.refl _ _
        go_wp2_with fail; refine (HBackStopsi.out _).mono ?_; rintro e w1 ⟨v1, rfl, o1, hb1⟩
        have f1 : Below w.heap.size w w1 := bstep (show Below w.heap.size w _ by (repeat (first | with_reducible exact Below.refl _ _ | with_reducible assumption | with_reducible refine balloc ?_ _ | with_reducible refine bdrew ?_ | with_reducible refine below_drewN ?_ _ | with_reducible refine bset ?_ ?_ _ | with_reducible exact Nat.le_refl _ | with_reducible refine bsize ?_ | (dsimp only; refine Nat.le_trans ?_ (Nat.le_add_right _ _)) | with_reducible refine Nat.le_trans ?_ (Nat.le_add_right _ _) | (with_reducible refine bstep ?_ (by assumption))))) hb1
        have bq1 := bstep bq0 f1
        clear hb1 f1 bq0
        go_wp2_with fail; refine (HBackStopss.out _).mono ?_; rintro e w2 ⟨v2, rfl, o2, hb2⟩
        have f2 : Below w1.heap.size w1 w2 := bstep (show Below w1.heap.size w1 _ by (repeat (first | with_reducible exact Below.refl _ _ | with_reducible assumption | with_reducible refine balloc ?_ _ | with_reducible refine bdrew ?_ | with_reducible refine below_drewN ?_ _ | with_reducible refine bset ?_ ?_ _ | with_reducible exact Nat.le_refl _ | with_reducible refine bsize ?_ | (dsimp only; refine Nat.le_trans ?_ (Nat.le_add_right _ _)) | with_reducible refine Nat.le_trans ?_ (Nat.le_add_right _ _) | (with_reducible refine bstep ?_ (by assumption))))) hb2
        replace o1 := ownsRow_below o1 f2
        have bq2 := bstep bq1 f2
        clear hb2 f2 bq1
        go_wp2_with fail; refine (HBackReachi.out _).mono ?_; rintro e w3 ⟨rfl, hb3⟩
        have f3 : Below w2.heap.size w2 w3 := bstep (show Below w2.heap.size w2 _ by (repeat (first | with_reducible exact Below.refl _ _ | with_reducible assumption | with_reducible refine balloc ?_ _ | with_reducible refine bdrew ?_ | with_reducible refine below_drewN ?_ _ | with_reducible refine bset ?_ ?_ _ | with_reducible exact Nat.le_refl _ | with_reducible refine bsize ?_ | (dsimp only; refine Nat.le_trans ?_ (Nat.le_add_right _ _)) | with_reducible refine Nat.le_trans ?_ (Nat.le_add_right _ _) | (with_reducible refine bstep ?_ (by assumption))))) hb3
        replace o1 := ownsRow_below o1 f3
        replace o2 := ownsRow_below o2 f3
        have bq3 := bstep bq2 f3
        clear hb3 f3 bq2
        go_wp2_with fail; refine (HBackReachs.out _).mono ?_; rintro e w4 ⟨rfl, hb4⟩
        have f4 : Below w3.heap.size w3 w4 := bstep (show Below w3.heap.size w3 _ by (repeat (first | with_reducible exact Below.refl _ _ | with_reducible assumption | with_reducible refine balloc ?_ _ | with_reducible refine bdrew ?_ | with_reducible refine below_drewN ?_ _ | with_reducible refine bset ?_ ?_ _ | with_reducible exact Nat.le_refl _ | with_reducible refine bsize ?_ | (dsimp only; refine Nat.le_trans ?_ (Nat.le_add_right _ _)) | with_reducible refine Nat.le_trans ?_ (Nat.le_add_right _ _) | (with_reducible refine bstep ?_ (by assumption))))) hb4
        have ra0 : w4.cell? ⟨w3.heap.size, 0, none⟩ = some (.int .i64 0) := (hb4.cell (p := ⟨w3.heap.size, 0, none⟩) (by first | (simp; done) | (simp; omega))).trans (by first | (simp [go_sem]; done) | (simp [go_sem, *]; done))
        have ra1 : w4.cell? ⟨w3.heap.size, 1, none⟩ = some (.int .i64 0) := (hb4.cell (p := ⟨w3.heap.size, 1, none⟩) (by first | (simp; done) | (simp; omega))).trans (by first | (simp [go_sem]; done) | (simp [go_sem, *]; done))
        have raz : w3.heap.size < w4.heap.size := Nat.lt_of_lt_of_le (by first | (simp; done) | (simp; omega)) hb4.size
        replace o1 := ownsRow_below o1 f4
        replace o2 := ownsRow_below o2 f4
        have bq4 := bstep bq3 f4
        clear hb4 f4 bq3
        go_wp2_with fail; refine (HReturnReachi.out _).mono ?_; rintro e w5 ⟨rfl, hb5⟩
        have f5 : Below w4.heap.size w4 w5 := bstep (show Below w4.heap.size w4 _ by (repeat (first | with_reducible exact Below.refl _ _ | with_reducible assumption | with_reducible refine balloc ?_ _ | with_reducible refine bdrew ?_ | with_reducible refine below_drewN ?_ _ | with_reducible refine bset ?_ ?_ _ | with_reducible exact Nat.le_refl _ | with_reducible refine bsize ?_ | (dsimp only; refine Nat.le_trans ?_ (Nat.le_add_right _ _)) | with_reducible refine Nat.le_trans ?_ (Nat.le_add_right _ _) | (with_reducible refine bstep ?_ (by assumption))))) hb5
        have rb0 : w5.cell? ⟨w4.heap.size, 0, none⟩ = some (.int .i64 0) := (hb5.cell (p := ⟨w4.heap.size, 0, none⟩) (by first | (simp; done) | (simp; omega))).trans (by first | (simp [go_sem]; done) | (simp [go_sem, *]; done))
        have rb1 : w5.cell? ⟨w4.heap.size, 1, none⟩ = some (.int .i64 0) := (hb5.cell (p := ⟨w4.heap.size, 1, none⟩) (by first | (simp; done) | (simp; omega))).trans (by first | (simp [go_sem]; done) | (simp [go_sem, *]; done))
        have rbz : w4.heap.size < w5.heap.size := Nat.lt_of_lt_of_le (by first | (simp; done) | (simp; omega)) hb5.size
        replace ra0 := keepa f5 raz ra0
        replace ra1 := keepa f5 raz ra1
        replace raz := Nat.lt_of_lt_of_le raz f5.size
        replace o1 := ownsRow_below o1 f5
        replace o2 := ownsRow_below o2 f5
        have bq5 := bstep bq4 f5
        clear hb5 f5 bq4
        go_wp2_with fail; refine (HReturnReachs.out _).mono ?_; rintro e w6 ⟨rfl, hb6⟩
        have f6 : Below w5.heap.size w5 w6 := bstep (show Below w5.heap.size w5 _ by (repeat (first | with_reducible exact Below.refl _ _ | with_reducible assumption | with_reducible refine balloc ?_ _ | with_reducible refine bdrew ?_ | with_reducible refine below_drewN ?_ _ | with_reducible refine bset ?_ ?_ _ | with_reducible exact Nat.le_refl _ | with_reducible refine bsize ?_ | (dsimp only; refine Nat.le_trans ?_ (Nat.le_add_right _ _)) | with_reducible refine Nat.le_trans ?_ (Nat.le_add_right _ _) | (with_reducible refine bstep ?_ (by assumption))))) hb6
        have ha0 : w6.cell? ⟨w5.heap.size, 0, none⟩ = some (.int .i64 0) := (hb6.cell (p := ⟨w5.heap.size, 0, none⟩) (by first | (simp; done) | (simp; omega))).trans (by first | (simp [go_sem]; done) | (simp [go_sem, *]; done))
        have ha1 : w6.cell? ⟨w5.heap.size, 1, none⟩ = some (.int .i64 0) := (hb6.cell (p := ⟨w5.heap.size, 1, none⟩) (by first | (simp; done) | (simp; omega))).trans (by first | (simp [go_sem]; done) | (simp [go_sem, *]; done))
        have haz : w5.heap.size < w6.heap.size := Nat.lt_of_lt_of_le (by first | (simp; done) | (simp; omega)) hb6.size
        replace ra0 := keepa f6 raz ra0
        replace ra1 := keepa f6 raz ra1
        replace rb0 := keepa f6 rbz rb0
        replace rb1 := keepa f6 rbz rb1
        replace raz := Nat.lt_of_lt_of_le raz f6.size
        replace rbz := Nat.lt_of_lt_of_le rbz f6.size
        replace o1 := ownsRow_below o1 f6
        replace o2 := ownsRow_below o2 f6
        have bq6 := bstep bq5 f6
        clear hb6 f6 bq5
        go_wp2_with fail; refine (HLastFulli.out _).mono ?_; rintro e w7 ⟨rfl, hb7⟩
        have f7 : Below w6.heap.size w6 w7 := bstep (show Below w6.heap.size w6 _ by (repeat (first | with_reducible exact Below.refl _ _ | with_reducible assumption | with_reducible refine balloc ?_ _ | with_reducible refine bdrew ?_ | with_reducible refine below_drewN ?_ _ | with_reducible refine bset ?_ ?_ _ | with_reducible exact Nat.le_refl _ | with_reducible refine bsize ?_ | (dsimp only; refine Nat.le_trans ?_ (Nat.le_add_right _ _)) | with_reducible refine Nat.le_trans ?_ (Nat.le_add_right _ _) | (with_reducible refine bstep ?_ (by assumption))))) hb7
        have hb0 : w7.cell? ⟨w6.heap.size, 0, none⟩ = some (.int .i64 0) := (hb7.cell (p := ⟨w6.heap.size, 0, none⟩) (by first | (simp; done) | (simp; omega))).trans (by first | (simp [go_sem]; done) | (simp [go_sem, *]; done))
        have hb1 : w7.cell? ⟨w6.heap.size, 1, none⟩ = some (.int .i64 0) := (hb7.cell (p := ⟨w6.heap.size, 1, none⟩) (by first | (simp; done) | (simp; omega))).trans (by first | (simp [go_sem]; done) | (simp [go_sem, *]; done))
        have hbz : w6.heap.size < w7.heap.size := Nat.lt_of_lt_of_le (by first | (simp; done) | (simp; omega)) hb7.size
        replace ra0 := keepa f7 raz ra0
        replace ra1 := keepa f7 raz ra1
        replace rb0 := keepa f7 rbz rb0
        replace rb1 := keepa f7 rbz rb1
        replace ha0 := keepa f7 haz ha0
        replace ha1 := keepa f7 haz ha1
        replace raz := Nat.lt_of_lt_of_le raz f7.size
        replace rbz := Nat.lt_of_lt_of_le rbz f7.size
        replace haz := Nat.lt_of_lt_of_le haz f7.size
        replace o1 := ownsRow_below o1 f7
        replace o2 := ownsRow_below o2 f7
        have bq7 := bstep bq6 f7
        clear hb7 f7 bq6
        go_wp2_with fail; refine (HLastFulls.out _).mono ?_; rintro e w8 ⟨rfl, hb8⟩
        have f8 : Below w7.heap.size w7 w8 := bstep (show Below w7.heap.size w7 _ by (repeat (first | with_reducible exact Below.refl _ _ | with_reducible assumption | with_reducible refine balloc ?_ _ | with_reducible refine bdrew ?_ | with_reducible refine below_drewN ?_ _ | with_reducible refine bset ?_ ?_ _ | with_reducible exact Nat.le_refl _ | with_reducible refine bsize ?_ | (dsimp only; refine Nat.le_trans ?_ (Nat.le_add_right _ _)) | with_reducible refine Nat.le_trans ?_ (Nat.le_add_right _ _) | (with_reducible refine bstep ?_ (by assumption))))) hb8
        have ua0 : w8.cell? ⟨w7.heap.size, 0, none⟩ = some (.int .i64 0) := (hb8.cell (p := ⟨w7.heap.size, 0, none⟩) (by first | (simp; done) | (simp; omega))).trans (by first | (simp [go_sem]; done) | (simp [go_sem, *]; done))
        have ua1 : w8.cell? ⟨w7.heap.size, 1, none⟩ = some (.int .i64 0) := (hb8.cell (p := ⟨w7.heap.size, 1, none⟩) (by first | (simp; done) | (simp; omega))).trans (by first | (simp [go_sem]; done) | (simp [go_sem, *]; done))
        have uaz : w7.heap.size < w8.heap.size := Nat.lt_of_lt_of_le (by first | (simp; done) | (simp; omega)) hb8.size
        replace ra0 := keepa f8 raz ra0
        replace ra1 := keepa f8 raz ra1
        replace rb0 := keepa f8 rbz rb0
        replace rb1 := keepa f8 rbz rb1
        replace ha0 := keepa f8 haz ha0
        replace ha1 := keepa f8 haz ha1
        replace hb0 := keepa f8 hbz hb0
        replace hb1 := keepa f8 hbz hb1
        replace raz := Nat.lt_of_lt_of_le raz f8.size
        replace rbz := Nat.lt_of_lt_of_le rbz f8.size
        replace haz := Nat.lt_of_lt_of_le haz f8.size
        replace hbz := Nat.lt_of_lt_of_le hbz f8.size
        replace o1 := ownsRow_below o1 f8
        replace o2 := ownsRow_below o2 f8
        have bq8 := bstep bq7 f8
        clear hb8 f8 bq7
        go_wp2_with fail; refine (HDrivenByAlli.out _).mono ?_; rintro e w9 ⟨rfl, hb9⟩
        have f9 : Below w8.heap.size w8 w9 := bstep (show Below w8.heap.size w8 _ by (repeat (first | with_reducible exact Below.refl _ _ | with_reducible assumption | with_reducible refine balloc ?_ _ | with_reducible refine bdrew ?_ | with_reducible refine below_drewN ?_ _ | with_reducible refine bset ?_ ?_ _ | with_reducible exact Nat.le_refl _ | with_reducible refine bsize ?_ | (dsimp only; refine Nat.le_trans ?_ (Nat.le_add_right _ _)) | with_reducible refine Nat.le_trans ?_ (Nat.le_add_right _ _) | (with_reducible refine bstep ?_ (by assumption))))) hb9
        have ub0 : w9.cell? ⟨w8.heap.size, 0, none⟩ = some (.int .i64 0) := (hb9.cell (p := ⟨w8.heap.size, 0, none⟩) (by first | (simp; done) | (simp; omega))).trans (by first | (simp [go_sem]; done) | (simp [go_sem, *]; done))
        have ub1 : w9.cell? ⟨w8.heap.size, 1, none⟩ = some (.int .i64 0) := (hb9.cell (p := ⟨w8.heap.size, 1, none⟩) (by first | (simp; done) | (simp; omega))).trans (by first | (simp [go_sem]; done) | (simp [go_sem, *]; done))
        have ubz : w8.heap.size < w9.heap.size := Nat.lt_of_lt_of_le (by first | (simp; done) | (simp; omega)) hb9.size
        replace ra0 := keepa f9 raz ra0
        replace ra1 := keepa f9 raz ra1
        replace rb0 := keepa f9 rbz rb0
        replace rb1 := keepa f9 rbz rb1
        replace ha0 := keepa f9 haz ha0
        replace ha1 := keepa f9 haz ha1
        replace hb0 := keepa f9 hbz hb0
        replace hb1 := keepa f9 hbz hb1
        replace ua0 := keepa f9 uaz ua0
        replace ua1 := keepa f9 uaz ua1
        replace raz := Nat.lt_of_lt_of_le raz f9.size
        replace rbz := Nat.lt_of_lt_of_le rbz f9.size
        replace haz := Nat.lt_of_lt_of_le haz f9.size
        replace hbz := Nat.lt_of_lt_of_le hbz f9.size
        replace uaz := Nat.lt_of_lt_of_le uaz f9.size
        replace o1 := ownsRow_below o1 f9
        replace o2 := ownsRow_below o2 f9
        have bq9 := bstep bq8 f9
        clear hb9 f9 bq8
        go_wp2_with fail; refine (HDrivenByAlls.out _).mono ?_; rintro e w10 ⟨rfl, hb10⟩
        have f10 : Below w9.heap.size w9 w10 := bstep (show Below w9.heap.size w9 _ by (repeat (first | with_reducible exact Below.refl _ _ | with_reducible assumption | with_reducible refine balloc ?_ _ | with_reducible refine bdrew ?_ | with_reducible refine below_drewN ?_ _ | with_reducible refine bset ?_ ?_ _ | with_reducible exact Nat.le_refl _ | with_reducible refine bsize ?_ | (dsimp only; refine Nat.le_trans ?_ (Nat.le_add_right _ _)) | with_reducible refine Nat.le_trans ?_ (Nat.le_add_right _ _) | (with_reducible refine bstep ?_ (by assumption))))) hb10
        have da0 : w10.cell? ⟨w9.heap.size, 0, none⟩ = some (.int .i64 0) := (hb10.cell (p := ⟨w9.heap.size, 0, none⟩) (by first | (simp; done) | (simp; omega))).trans (by first | (simp [go_sem]; done) | (simp [go_sem, *]; done))
        have da1 : w10.cell? ⟨w9.heap.size, 1, none⟩ = some (.int .i64 0) := (hb10.cell (p := ⟨w9.heap.size, 1, none⟩) (by first | (simp; done) | (simp; omega))).trans (by first | (simp [go_sem]; done) | (simp [go_sem, *]; done))
        have daz : w9.heap.size < w10.heap.size := Nat.lt_of_lt_of_le (by first | (simp; done) | (simp; omega)) hb10.size
        replace ra0 := keepa f10 raz ra0
        replace ra1 := keepa f10 raz ra1
        replace rb0 := keepa f10 rbz rb0
        replace rb1 := keepa f10 rbz rb1
        replace ha0 := keepa f10 haz ha0
        replace ha1 := keepa f10 haz ha1
        replace hb0 := keepa f10 hbz hb0
        replace hb1 := keepa f10 hbz hb1
        replace ua0 := keepa f10 uaz ua0
        replace ua1 := keepa f10 uaz ua1
        replace ub0 := keepa f10 ubz ub0
        replace ub1 := keepa f10 ubz ub1
        replace raz := Nat.lt_of_lt_of_le raz f10.size
        replace rbz := Nat.lt_of_lt_of_le rbz f10.size
        replace haz := Nat.lt_of_lt_of_le haz f10.size
        replace hbz := Nat.lt_of_lt_of_le hbz f10.size
        replace uaz := Nat.lt_of_lt_of_le uaz f10.size
        replace ubz := Nat.lt_of_lt_of_le ubz f10.size
        replace o1 := ownsRow_below o1 f10
        replace o2 := ownsRow_below o2 f10
        have bq10 := bstep bq9 f10
        clear hb10 f10 bq9
        go_wp2_with fail; refine (HStayStopsi.out _).mono ?_; rintro e w11 ⟨v3, rfl, o3, hb11⟩
        have f11 : Below w10.heap.size w10 w11 := bstep (show Below w10.heap.size w10 _ by (repeat (first | with_reducible exact Below.refl _ _ | with_reducible assumption | with_reducible refine balloc ?_ _ | with_reducible refine bdrew ?_ | with_reducible refine below_drewN ?_ _ | with_reducible refine bset ?_ ?_ _ | with_reducible exact Nat.le_refl _ | with_reducible refine bsize ?_ | (dsimp only; refine Nat.le_trans ?_ (Nat.le_add_right _ _)) | with_reducible refine Nat.le_trans ?_ (Nat.le_add_right _ _) | (with_reducible refine bstep ?_ (by assumption))))) hb11
        have db0 : w11.cell? ⟨w10.heap.size, 0, none⟩ = some (.int .i64 0) := (hb11.cell (p := ⟨w10.heap.size, 0, none⟩) (by first | (simp; done) | (simp; omega))).trans (by first | (simp [go_sem]; done) | (simp [go_sem, *]; done))
        have db1 : w11.cell? ⟨w10.heap.size, 1, none⟩ = some (.int .i64 0) := (hb11.cell (p := ⟨w10.heap.size, 1, none⟩) (by first | (simp; done) | (simp; omega))).trans (by first | (simp [go_sem]; done) | (simp [go_sem, *]; done))
        have dbz : w10.heap.size < w11.heap.size := Nat.lt_of_lt_of_le (by first | (simp; done) | (simp; omega)) hb11.size
        replace ra0 := keepa f11 raz ra0
        replace ra1 := keepa f11 raz ra1
        replace rb0 := keepa f11 rbz rb0
        replace rb1 := keepa f11 rbz rb1
        replace ha0 := keepa f11 haz ha0
        replace ha1 := keepa f11 haz ha1
        replace hb0 := keepa f11 hbz hb0
        replace hb1 := keepa f11 hbz hb1
        replace ua0 := keepa f11 uaz ua0
        replace ua1 := keepa f11 uaz ua1
        replace ub0 := keepa f11 ubz ub0
        replace ub1 := keepa f11 ubz ub1
        replace da0 := keepa f11 daz da0
        replace da1 := keepa f11 daz da1
        replace raz := Nat.lt_of_lt_of_le raz f11.size
        replace rbz := Nat.lt_of_lt_of_le rbz f11.size
        replace haz := Nat.lt_of_lt_of_le haz f11.size
        replace hbz := Nat.lt_of_lt_of_le hbz f11.size
        replace uaz := Nat.lt_of_lt_of_le uaz f11.size
        replace ubz := Nat.lt_of_lt_of_le ubz f11.size
        replace daz := Nat.lt_of_lt_of_le daz f11.size
        replace o1 := ownsRow_below o1 f11
        replace o2 := ownsRow_below o2 f11
        have bq11 := bstep bq10 f11
        clear hb11 f11 bq10
        go_wp2_with fail; refine (HStayStopss.out _).mono ?_; rintro e w12 ⟨v4, rfl, o4, hb12⟩
        have f12 : Below w11.heap.size w11 w12 := bstep (show Below w11.heap.size w11 _ by (repeat (first | with_reducible exact Below.refl _ _ | with_reducible assumption | with_reducible refine balloc ?_ _ | with_reducible refine bdrew ?_ | with_reducible refine below_drewN ?_ _ | with_reducible refine bset ?_ ?_ _ | with_reducible exact Nat.le_refl _ | with_reducible refine bsize ?_ | (dsimp only; refine Nat.le_trans ?_ (Nat.le_add_right _ _)) | with_reducible refine Nat.le_trans ?_ (Nat.le_add_right _ _) | (with_reducible refine bstep ?_ (by assumption))))) hb12
        replace ra0 := keepa f12 raz ra0
        replace ra1 := keepa f12 raz ra1
        replace rb0 := keepa f12 rbz rb0
        replace rb1 := keepa f12 rbz rb1
        replace ha0 := keepa f12 haz ha0
        replace ha1 := keepa f12 haz ha1
        replace hb0 := keepa f12 hbz hb0
        replace hb1 := keepa f12 hbz hb1
        replace ua0 := keepa f12 uaz ua0
        replace ua1 := keepa f12 uaz ua1
        replace ub0 := keepa f12 ubz ub0
        replace ub1 := keepa f12 ubz ub1
        replace da0 := keepa f12 daz da0
        replace da1 := keepa f12 daz da1
        replace db0 := keepa f12 dbz db0
        replace db1 := keepa f12 dbz db1
        replace raz := Nat.lt_of_lt_of_le raz f12.size
        replace rbz := Nat.lt_of_lt_of_le rbz f12.size
        replace haz := Nat.lt_of_lt_of_le haz f12.size
        replace hbz := Nat.lt_of_lt_of_le hbz f12.size
        replace uaz := Nat.lt_of_lt_of_le uaz f12.size
        replace ubz := Nat.lt_of_lt_of_le ubz f12.size
        replace daz := Nat.lt_of_lt_of_le daz f12.size
        replace dbz := Nat.lt_of_lt_of_le dbz f12.size
        replace o1 := ownsRow_below o1 f12
        replace o2 := ownsRow_below o2 f12
        replace o3 := ownsRow_below o3 f12
        have bq12 := bstep bq11 f12
        clear hb12 f12 bq11
        go_wp2_with fail; refine (HStayReachi.out _).mono ?_; rintro e w13 ⟨rfl, hb13⟩
        have f13 : Below w12.heap.size w12 w13 := bstep (show Below w12.heap.size w12 _ by (repeat (first | with_reducible exact Below.refl _ _ | with_reducible assumption | with_reducible refine balloc ?_ _ | with_reducible refine bdrew ?_ | with_reducible refine below_drewN ?_ _ | with_reducible refine bset ?_ ?_ _ | with_reducible exact Nat.le_refl _ | with_reducible refine bsize ?_ | (dsimp only; refine Nat.le_trans ?_ (Nat.le_add_right _ _)) | with_reducible refine Nat.le_trans ?_ (Nat.le_add_right _ _) | (with_reducible refine bstep ?_ (by assumption))))) hb13
        replace ra0 := keepa f13 raz ra0
        replace ra1 := keepa f13 raz ra1
        replace rb0 := keepa f13 rbz rb0
        replace rb1 := keepa f13 rbz rb1
        replace ha0 := keepa f13 haz ha0
        replace ha1 := keepa f13 haz ha1
        replace hb0 := keepa f13 hbz hb0
        replace hb1 := keepa f13 hbz hb1
        replace ua0 := keepa f13 uaz ua0
        replace ua1 := keepa f13 uaz ua1
        replace ub0 := keepa f13 ubz ub0
        replace ub1 := keepa f13 ubz ub1
        replace da0 := keepa f13 daz da0
        replace da1 := keepa f13 daz da1
        replace db0 := keepa f13 dbz db0
        replace db1 := keepa f13 dbz db1
        replace raz := Nat.lt_of_lt_of_le raz f13.size
        replace rbz := Nat.lt_of_lt_of_le rbz f13.size
        replace haz := Nat.lt_of_lt_of_le haz f13.size
        replace hbz := Nat.lt_of_lt_of_le hbz f13.size
        replace uaz := Nat.lt_of_lt_of_le uaz f13.size
        replace ubz := Nat.lt_of_lt_of_le ubz f13.size
        replace daz := Nat.lt_of_lt_of_le daz f13.size
        replace dbz := Nat.lt_of_lt_of_le dbz f13.size
        replace o1 := ownsRow_below o1 f13
        replace o2 := ownsRow_below o2 f13
        replace o3 := ownsRow_below o3 f13
        replace o4 := ownsRow_below o4 f13
        have bq13 := bstep bq12 f13
        clear hb13 f13 bq12
        go_wp2_with fail; refine (HStayReachs.out _).mono ?_; rintro e w14 ⟨rfl, hb14⟩
        have f14 : Below w13.heap.size w13 w14 := bstep (show Below w13.heap.size w13 _ by (repeat (first | with_reducible exact Below.refl _ _ | with_reducible assumption | with_reducible refine balloc ?_ _ | with_reducible refine bdrew ?_ | with_reducible refine below_drewN ?_ _ | with_reducible refine bset ?_ ?_ _ | with_reducible exact Nat.le_refl _ | with_reducible refine bsize ?_ | (dsimp only; refine Nat.le_trans ?_ (Nat.le_add_right _ _)) | with_reducible refine Nat.le_trans ?_ (Nat.le_add_right _ _) | (with_reducible refine bstep ?_ (by assumption))))) hb14
        have sa0 : w14.cell? ⟨w13.heap.size, 0, none⟩ = some (.int .i64 0) := (hb14.cell (p := ⟨w13.heap.size, 0, none⟩) (by first | (simp; done) | (simp; omega))).trans (by first | (simp [go_sem]; done) | (simp [go_sem, *]; done))
        have sa1 : w14.cell? ⟨w13.heap.size, 1, none⟩ = some (.int .i64 0) := (hb14.cell (p := ⟨w13.heap.size, 1, none⟩) (by first | (simp; done) | (simp; omega))).trans (by first | (simp [go_sem]; done) | (simp [go_sem, *]; done))
        have saz : w13.heap.size < w14.heap.size := Nat.lt_of_lt_of_le (by first | (simp; done) | (simp; omega)) hb14.size
        replace ra0 := keepa f14 raz ra0
        replace ra1 := keepa f14 raz ra1
        replace rb0 := keepa f14 rbz rb0
        replace rb1 := keepa f14 rbz rb1
        replace ha0 := keepa f14 haz ha0
        replace ha1 := keepa f14 haz ha1
        replace hb0 := keepa f14 hbz hb0
        replace hb1 := keepa f14 hbz hb1
        replace ua0 := keepa f14 uaz ua0
        replace ua1 := keepa f14 uaz ua1
        replace ub0 := keepa f14 ubz ub0
        replace ub1 := keepa f14 ubz ub1
        replace da0 := keepa f14 daz da0
        replace da1 := keepa f14 daz da1
        replace db0 := keepa f14 dbz db0
        replace db1 := keepa f14 dbz db1
        replace raz := Nat.lt_of_lt_of_le raz f14.size
        replace rbz := Nat.lt_of_lt_of_le rbz f14.size
        replace haz := Nat.lt_of_lt_of_le haz f14.size
        replace hbz := Nat.lt_of_lt_of_le hbz f14.size
        replace uaz := Nat.lt_of_lt_of_le uaz f14.size
        replace ubz := Nat.lt_of_lt_of_le ubz f14.size
        replace daz := Nat.lt_of_lt_of_le daz f14.size
        replace dbz := Nat.lt_of_lt_of_le dbz f14.size
        replace o1 := ownsRow_below o1 f14
        replace o2 := ownsRow_below o2 f14
        replace o3 := ownsRow_below o3 f14
        replace o4 := ownsRow_below o4 f14
        have bq14 := bstep bq13 f14
        clear hb14 f14 bq13
        go_upto_region 18 with fail
        refine (fun (h : ∀ V, V = _ → Code.wp _ _ _ _ V) => h _ rfl) ?_
        intro w15 hV15
        have f15 : Below w14.heap.size w14 w15 := by rw [hV15]; (repeat (first | with_reducible exact Below.refl _ _ | with_reducible assumption | with_reducible refine balloc ?_ _ | with_reducible refine bdrew ?_ | with_reducible refine below_drewN ?_ _ | with_reducible refine bset ?_ ?_ _ | with_reducible exact Nat.le_refl _ | with_reducible refine bsize ?_ | (dsimp only; refine Nat.le_trans ?_ (Nat.le_add_right _ _)) | with_reducible refine Nat.le_trans ?_ (Nat.le_add_right _ _) | (with_reducible refine bstep ?_ (by assumption))))
        have sb0 : w15.cell? ⟨w14.heap.size, 0, none⟩ = some (.int .i64 0) := by rw [hV15]; first | (simp [go_sem]; done) | (simp [go_sem, *]; done)
        have sb1 : w15.cell? ⟨w14.heap.size, 1, none⟩ = some (.int .i64 0) := by rw [hV15]; first | (simp [go_sem]; done) | (simp [go_sem, *]; done)
        have sbz : w14.heap.size < w15.heap.size := by rw [hV15]; first | (simp; done) | (simp; omega)
        replace ra0 := keepa f15 raz ra0
        replace ra1 := keepa f15 raz ra1
        replace rb0 := keepa f15 rbz rb0
        replace rb1 := keepa f15 rbz rb1
        replace ha0 := keepa f15 haz ha0
        replace ha1 := keepa f15 haz ha1
        replace hb0 := keepa f15 hbz hb0
        replace hb1 := keepa f15 hbz hb1
        replace ua0 := keepa f15 uaz ua0
        replace ua1 := keepa f15 uaz ua1
        replace ub0 := keepa f15 ubz ub0
        replace ub1 := keepa f15 ubz ub1
        replace da0 := keepa f15 daz da0
        replace da1 := keepa f15 daz da1
        replace db0 := keepa f15 dbz db0
        replace db1 := keepa f15 dbz db1
        replace sa0 := keepa f15 saz sa0
        replace sa1 := keepa f15 saz sa1
        replace raz := Nat.lt_of_lt_of_le raz f15.size
        replace rbz := Nat.lt_of_lt_of_le rbz f15.size
        replace haz := Nat.lt_of_lt_of_le haz f15.size
        replace hbz := Nat.lt_of_lt_of_le hbz f15.size
        replace uaz := Nat.lt_of_lt_of_le uaz f15.size
        replace ubz := Nat.lt_of_lt_of_le ubz f15.size
        replace daz := Nat.lt_of_lt_of_le daz f15.size
        replace dbz := Nat.lt_of_lt_of_le dbz f15.size
        replace saz := Nat.lt_of_lt_of_le saz f15.size
        replace o1 := ownsRow_below o1 f15
        replace o2 := ownsRow_below o2 f15
        replace o3 := ownsRow_below o3 f15
        replace o4 := ownsRow_below o4 f15
        have bq15 := bstep bq14 f15
        clear hV15 f15 bq14
        go_wp2_with fail; refine (xStops_same _ _ [] _ _ _ (by simp) o1 o2).mono ?_; rintro e w16 ⟨rfl, hb16⟩
        have f16 : Below w15.heap.size w15 w16 := bstep (show Below w15.heap.size w15 _ by (repeat (first | with_reducible exact Below.refl _ _ | with_reducible assumption | with_reducible refine balloc ?_ _ | with_reducible refine bdrew ?_ | with_reducible refine below_drewN ?_ _ | with_reducible refine bset ?_ ?_ _ | with_reducible exact Nat.le_refl _ | with_reducible refine bsize ?_ | (dsimp only; refine Nat.le_trans ?_ (Nat.le_add_right _ _)) | with_reducible refine Nat.le_trans ?_ (Nat.le_add_right _ _) | (with_reducible refine bstep ?_ (by assumption))))) hb16
        replace ra0 := keepa f16 raz ra0
        replace ra1 := keepa f16 raz ra1
        replace rb0 := keepa f16 rbz rb0
        replace rb1 := keepa f16 rbz rb1
        replace ha0 := keepa f16 haz ha0
        replace ha1 := keepa f16 haz ha1
        replace hb0 := keepa f16 hbz hb0
        replace hb1 := keepa f16 hbz hb1
        replace ua0 := keepa f16 uaz ua0
        replace ua1 := keepa f16 uaz ua1
        replace ub0 := keepa f16 ubz ub0
        replace ub1 := keepa f16 ubz ub1
        replace da0 := keepa f16 daz da0
        replace da1 := keepa f16 daz da1
        replace db0 := keepa f16 dbz db0
        replace db1 := keepa f16 dbz db1
        replace sa0 := keepa f16 saz sa0
        replace sa1 := keepa f16 saz sa1
        replace sb0 := keepa f16 sbz sb0
        replace sb1 := keepa f16 sbz sb1
        replace raz := Nat.lt_of_lt_of_le raz f16.size
        replace rbz := Nat.lt_of_lt_of_le rbz f16.size
        replace haz := Nat.lt_of_lt_of_le haz f16.size
        replace hbz := Nat.lt_of_lt_of_le hbz f16.size
        replace uaz := Nat.lt_of_lt_of_le uaz f16.size
        replace ubz := Nat.lt_of_lt_of_le ubz f16.size
        replace daz := Nat.lt_of_lt_of_le daz f16.size
        replace dbz := Nat.lt_of_lt_of_le dbz f16.size
        replace saz := Nat.lt_of_lt_of_le saz f16.size
        replace sbz := Nat.lt_of_lt_of_le sbz f16.size
        replace o1 := ownsRow_below o1 f16
        replace o2 := ownsRow_below o2 f16
        replace o3 := ownsRow_below o3 f16
        replace o4 := ownsRow_below o4 f16
        have bq16 := bstep bq15 f16
        clear hb16 f16 bq15
        go_wp2_with fail; refine (xStops_same _ _ [] _ _ _ (by simp) o3 o4).mono ?_; rintro e w17 ⟨rfl, hb17⟩
        have f17 : Below w16.heap.size w16 w17 := bstep (show Below w16.heap.size w16 _ by (repeat (first | with_reducible exact Below.refl _ _ | with_reducible assumption | with_reducible refine balloc ?_ _ | with_reducible refine bdrew ?_ | with_reducible refine below_drewN ?_ _ | with_reducible refine bset ?_ ?_ _ | with_reducible exact Nat.le_refl _ | with_reducible refine bsize ?_ | (dsimp only; refine Nat.le_trans ?_ (Nat.le_add_right _ _)) | with_reducible refine Nat.le_trans ?_ (Nat.le_add_right _ _) | (with_reducible refine bstep ?_ (by assumption))))) hb17
        replace ra0 := keepa f17 raz ra0
        replace ra1 := keepa f17 raz ra1
        replace rb0 := keepa f17 rbz rb0
        replace rb1 := keepa f17 rbz rb1
        replace ha0 := keepa f17 haz ha0
        replace ha1 := keepa f17 haz ha1
        replace hb0 := keepa f17 hbz hb0
        replace hb1 := keepa f17 hbz hb1
        replace ua0 := keepa f17 uaz ua0
        replace ua1 := keepa f17 uaz ua1
        replace ub0 := keepa f17 ubz ub0
        replace ub1 := keepa f17 ubz ub1
        replace da0 := keepa f17 daz da0
        replace da1 := keepa f17 daz da1
        replace db0 := keepa f17 dbz db0
        replace db1 := keepa f17 dbz db1
        replace sa0 := keepa f17 saz sa0
        replace sa1 := keepa f17 saz sa1
        replace sb0 := keepa f17 sbz sb0
        replace sb1 := keepa f17 sbz sb1
        replace raz := Nat.lt_of_lt_of_le raz f17.size
        replace rbz := Nat.lt_of_lt_of_le rbz f17.size
        replace haz := Nat.lt_of_lt_of_le haz f17.size
        replace hbz := Nat.lt_of_lt_of_le hbz f17.size
        replace uaz := Nat.lt_of_lt_of_le uaz f17.size
        replace ubz := Nat.lt_of_lt_of_le ubz f17.size
        replace daz := Nat.lt_of_lt_of_le daz f17.size
        replace dbz := Nat.lt_of_lt_of_le dbz f17.size
        replace saz := Nat.lt_of_lt_of_le saz f17.size
        replace sbz := Nat.lt_of_lt_of_le sbz f17.size
        replace o1 := ownsRow_below o1 f17
        replace o2 := ownsRow_below o2 f17
        replace o3 := ownsRow_below o3 f17
        replace o4 := ownsRow_below o4 f17
        have bq17 := bstep bq16 f17
        clear hb17 f17 bq16
        go_wp2
        go_ret
        exact ⟨rfl, bstep hbd (show Below w.heap.size w _ by (repeat (first | with_reducible exact Below.refl _ _ | with_reducible assumption | with_reducible refine balloc ?_ _ | with_reducible refine bdrew ?_ | with_reducible refine below_drewN ?_ _ | with_reducible refine bset ?_ ?_ _ | with_reducible exact Nat.le_refl _ | with_reducible refine bsize ?_ | (dsimp only; refine Nat.le_trans ?_ (Nat.le_add_right _ _)) | with_reducible refine Nat.le_trans ?_ (Nat.le_add_right _ _) | (with_reducible refine bstep ?_ (by assumption)))))⟩
    · as_aux_lemma =>
        simp only [inB, decide_eq_true_eq] at hn
        obtain ⟨m, rfl⟩ : ∃ m : Nat, n = (m : Int) + 1 := ⟨n.toNat - 1, by omega⟩
        have h20 : m < 20 := by omega
        clear hx hn
        have hc : ((m + 1 : Nat) : Int) = (m : Int) + 1 := by omega
        have h := ht_all (m + 1) (by omega) (by omega)
        simp only [htOk, Bool.and_eq_true, beq_iff_eq, Bool.not_eq_true', Nat.add_sub_cancel] at h
        obtain ⟨⟨⟨⟨⟨⟨⟨⟨⟨⟨⟨⟨⟨⟨⟨eI, eb⟩, es⟩, ed⟩, er⟩, eh⟩, el⟩, s1⟩, s2⟩, s3⟩, s4⟩, ef⟩, ea⟩, eA⟩, ez⟩, eZ⟩ := h
        have HBackReachi := fun W => BackReach_impl ((m + 1 : Nat) : Int) (by omega) W
        simp only [eI] at HBackReachi
        have HReturnReachi := fun W => ReturnReach_impl ((m + 1 : Nat) : Int) (by omega) W
        simp only [eI] at HReturnReachi
        have HLastFulli := fun W => LastFull_impl ((m + 1 : Nat) : Int) (by omega) W
        simp only [eI] at HLastFulli
        have HDrivenByAlli := fun W => DrivenByAll_impl ((m + 1 : Nat) : Int) (by omega) W
        simp only [eI] at HDrivenByAlli
        have HStayReachi := fun W => StayReach_impl ((m + 1 : Nat) : Int)  W
        simp only [eI] at HStayReachi
        have HBackStopsi := fun W => backStops_impl ((m + 1 : Nat) : Int) (by omega) W
        simp only [eI] at HBackStopsi
        have HStayStopsi := fun W => stayStops_impl ((m + 1 : Nat) : Int) (by omega) W
        simp only [eI] at HStayStopsi
        have HBackReachs := fun W => BackReach_spec ((m + 1 : Nat) : Int)  W
        simp only [eI] at HBackReachs
        have HReturnReachs := fun W => ReturnReach_spec ((m + 1 : Nat) : Int)  W
        simp only [eI] at HReturnReachs
        have HLastFulls := fun W => LastFull_spec ((m + 1 : Nat) : Int)  W
        simp only [eI] at HLastFulls
        have HDrivenByAlls := fun W => DrivenByAll_spec ((m + 1 : Nat) : Int)  W
        simp only [eI] at HDrivenByAlls
        have HStayReachs := fun W => StayReach_spec ((m + 1 : Nat) : Int)  W
        simp only [eI] at HStayReachs
        have HBackStopss := fun W => backStops_spec ((m + 1 : Nat) : Int) (by omega) W
        simp only [eI] at HBackStopss
        have HStayStopss := fun W => stayStops_spec ((m + 1 : Nat) : Int) (by omega) W
        simp only [eI] at HStayStopss
        have hat : ∀ i, i < m → htAt (m + 1) i = true := fun i hi => ht_at (m + 1) (by omega) i (by omega)
        have hst : ∀ i, i < m → hsAt (m + 1) i = true := fun i hi => hs_at (m + 1) (by omega) i (by omega)
        generalize shX ((m + 1 : Nat) : Int) (2 * ((m + 1 : Nat) : Int)) (((m + 1 : Nat) : Int) + 1) = rx at *
        generalize shY ((m + 1 : Nat) : Int) (2 * ((m + 1 : Nat) : Int)) (((m + 1 : Nat) : Int) + 1) = ry at *
        generalize shX ((m + 1 : Nat) : Int) ((m + 1 : Nat) : Int) (((m + 1 : Nat) : Int) + 1) = hx at *
        generalize shY ((m + 1 : Nat) : Int) ((m + 1 : Nat) : Int) (((m + 1 : Nat) : Int) + 1) = hy at *
        generalize shX ((m + 1 : Nat) : Int) (((m + 1 : Nat) : Int) - 1) (((m + 1 : Nat) : Int) + 1) = fx at *
        generalize shY ((m + 1 : Nat) : Int) (((m + 1 : Nat) : Int) - 1) (((m + 1 : Nat) : Int) + 1) = fy at *
        generalize shX ((m + 1 : Nat) : Int) ((m + 1 : Nat) : Int) 1 = dx at *
        generalize shY ((m + 1 : Nat) : Int) ((m + 1 : Nat) : Int) 1 = dy at *
        generalize reX 115 ((m + 1 : Nat) : Int) = sx at *
        generalize reY 115 ((m + 1 : Nat) : Int) = sy at *
        simp only [htAt] at hat
        simp only [hsAt] at hst
        have lb : (bkL ((m + 1 : Nat) : Int)).length ≤ 1048576 := by omega
        have ls : (hsL ((m + 1 : Nat) : Int)).length ≤ 1048576 := by omega
        generalize bkL ((m + 1 : Nat) : Int) = BL at *
        generalize hsL ((m + 1 : Nat) : Int) = SL at *
        simp only [hc] at *
        replace HBackReachi := Lib.hid HBackReachi
        replace HReturnReachi := Lib.hid HReturnReachi
        replace HLastFulli := Lib.hid HLastFulli
        replace HDrivenByAlli := Lib.hid HDrivenByAlli
        replace HStayReachi := Lib.hid HStayReachi
        replace HBackStopsi := Lib.hid HBackStopsi
        replace HStayStopsi := Lib.hid HStayStopsi
        replace HBackReachs := Lib.hid HBackReachs
        replace HReturnReachs := Lib.hid HReturnReachs
        replace HLastFulls := Lib.hid HLastFulls
        replace HDrivenByAlls := Lib.hid HDrivenByAlls
        replace HStayReachs := Lib.hid HStayReachs
        replace HBackStopss := Lib.hid HBackStopss
        replace HStayStopss := Lib.hid HStayStopss
        have ED := Lib.hid ed; have ER := Lib.hid er; have EH := Lib.hid eh; have EL := Lib.hid el; have EF := Lib.hid ef; have EA := Lib.hid ea; have EA2 := Lib.hid eA; have EZ := Lib.hid ez; have EZ2 := Lib.hid eZ; have HAT := Lib.hid hat; have HST := Lib.hid hst; have EB := Lib.hid eb; have ES := Lib.hid es; have LB := Lib.hid lb; have LS := Lib.hid ls; have S1 := Lib.hid s1; have S2 := Lib.hid s2; have S3 := Lib.hid s3; have S4 := Lib.hid s4
        clear ed er eh el ef ea eA ez eZ hat hst eb es lb ls s1 s2 s3 s4 eI hc
        have bq0 : Below w.heap.size w w := Below.refl _ _
        go_wp2_with fail; refine (HBackStopsi.out _).mono ?_; rintro e w1 ⟨v1, rfl, o1, hb1⟩
        have f1 : Below w.heap.size w w1 := bstep (show Below w.heap.size w _ by (repeat (first | with_reducible exact Below.refl _ _ | with_reducible assumption | with_reducible refine balloc ?_ _ | with_reducible refine bdrew ?_ | with_reducible refine below_drewN ?_ _ | with_reducible refine bset ?_ ?_ _ | with_reducible exact Nat.le_refl _ | with_reducible refine bsize ?_ | (dsimp only; refine Nat.le_trans ?_ (Nat.le_add_right _ _)) | with_reducible refine Nat.le_trans ?_ (Nat.le_add_right _ _) | (with_reducible refine bstep ?_ (by assumption))))) hb1
        have bq1 := bstep bq0 f1
        clear hb1 f1 bq0
        go_wp2_with fail; refine (HBackStopss.out _).mono ?_; rintro e w2 ⟨v2, rfl, o2, hb2⟩
        have f2 : Below w1.heap.size w1 w2 := bstep (show Below w1.heap.size w1 _ by (repeat (first | with_reducible exact Below.refl _ _ | with_reducible assumption | with_reducible refine balloc ?_ _ | with_reducible refine bdrew ?_ | with_reducible refine below_drewN ?_ _ | with_reducible refine bset ?_ ?_ _ | with_reducible exact Nat.le_refl _ | with_reducible refine bsize ?_ | (dsimp only; refine Nat.le_trans ?_ (Nat.le_add_right _ _)) | with_reducible refine Nat.le_trans ?_ (Nat.le_add_right _ _) | (with_reducible refine bstep ?_ (by assumption))))) hb2
        replace o1 := ownsRow_below o1 f2
        have bq2 := bstep bq1 f2
        clear hb2 f2 bq1
        go_wp2_with fail; refine (HBackReachi.out _).mono ?_; rintro e w3 ⟨rfl, hb3⟩
        have f3 : Below w2.heap.size w2 w3 := bstep (show Below w2.heap.size w2 _ by (repeat (first | with_reducible exact Below.refl _ _ | with_reducible assumption | with_reducible refine balloc ?_ _ | with_reducible refine bdrew ?_ | with_reducible refine below_drewN ?_ _ | with_reducible refine bset ?_ ?_ _ | with_reducible exact Nat.le_refl _ | with_reducible refine bsize ?_ | (dsimp only; refine Nat.le_trans ?_ (Nat.le_add_right _ _)) | with_reducible refine Nat.le_trans ?_ (Nat.le_add_right _ _) | (with_reducible refine bstep ?_ (by assumption))))) hb3
        replace o1 := ownsRow_below o1 f3
        replace o2 := ownsRow_below o2 f3
        have bq3 := bstep bq2 f3
        clear hb3 f3 bq2
        go_wp2_with fail; refine (HBackReachs.out _).mono ?_; rintro e w4 ⟨rfl, hb4⟩
        have f4 : Below w3.heap.size w3 w4 := bstep (show Below w3.heap.size w3 _ by (repeat (first | with_reducible exact Below.refl _ _ | with_reducible assumption | with_reducible refine balloc ?_ _ | with_reducible refine bdrew ?_ | with_reducible refine below_drewN ?_ _ | with_reducible refine bset ?_ ?_ _ | with_reducible exact Nat.le_refl _ | with_reducible refine bsize ?_ | (dsimp only; refine Nat.le_trans ?_ (Nat.le_add_right _ _)) | with_reducible refine Nat.le_trans ?_ (Nat.le_add_right _ _) | (with_reducible refine bstep ?_ (by assumption))))) hb4
        have ra0 : w4.cell? ⟨w3.heap.size, 0, none⟩ = some (.int .i64 rx) := (hb4.cell (p := ⟨w3.heap.size, 0, none⟩) (by first | (simp; done) | (simp; omega))).trans (by first | (simp [go_sem]; done) | (simp [go_sem, *]; done))
        have ra1 : w4.cell? ⟨w3.heap.size, 1, none⟩ = some (.int .i64 ry) := (hb4.cell (p := ⟨w3.heap.size, 1, none⟩) (by first | (simp; done) | (simp; omega))).trans (by first | (simp [go_sem]; done) | (simp [go_sem, *]; done))
        have raz : w3.heap.size < w4.heap.size := Nat.lt_of_lt_of_le (by first | (simp; done) | (simp; omega)) hb4.size
        replace o1 := ownsRow_below o1 f4
        replace o2 := ownsRow_below o2 f4
        have bq4 := bstep bq3 f4
        clear hb4 f4 bq3
        go_wp2_with fail; refine (HReturnReachi.out _).mono ?_; rintro e w5 ⟨rfl, hb5⟩
        have f5 : Below w4.heap.size w4 w5 := bstep (show Below w4.heap.size w4 _ by (repeat (first | with_reducible exact Below.refl _ _ | with_reducible assumption | with_reducible refine balloc ?_ _ | with_reducible refine bdrew ?_ | with_reducible refine below_drewN ?_ _ | with_reducible refine bset ?_ ?_ _ | with_reducible exact Nat.le_refl _ | with_reducible refine bsize ?_ | (dsimp only; refine Nat.le_trans ?_ (Nat.le_add_right _ _)) | with_reducible refine Nat.le_trans ?_ (Nat.le_add_right _ _) | (with_reducible refine bstep ?_ (by assumption))))) hb5
        have rb0 : w5.cell? ⟨w4.heap.size, 0, none⟩ = some (.int .i64 rx) := (hb5.cell (p := ⟨w4.heap.size, 0, none⟩) (by first | (simp; done) | (simp; omega))).trans (by first | (simp [go_sem]; done) | (simp [go_sem, *]; done))
        have rb1 : w5.cell? ⟨w4.heap.size, 1, none⟩ = some (.int .i64 ry) := (hb5.cell (p := ⟨w4.heap.size, 1, none⟩) (by first | (simp; done) | (simp; omega))).trans (by first | (simp [go_sem]; done) | (simp [go_sem, *]; done))
        have rbz : w4.heap.size < w5.heap.size := Nat.lt_of_lt_of_le (by first | (simp; done) | (simp; omega)) hb5.size
        replace ra0 := keepa f5 raz ra0
        replace ra1 := keepa f5 raz ra1
        replace raz := Nat.lt_of_lt_of_le raz f5.size
        replace o1 := ownsRow_below o1 f5
        replace o2 := ownsRow_below o2 f5
        have bq5 := bstep bq4 f5
        clear hb5 f5 bq4
        go_wp2_with fail; refine (HReturnReachs.out _).mono ?_; rintro e w6 ⟨rfl, hb6⟩
        have f6 : Below w5.heap.size w5 w6 := bstep (show Below w5.heap.size w5 _ by (repeat (first | with_reducible exact Below.refl _ _ | with_reducible assumption | with_reducible refine balloc ?_ _ | with_reducible refine bdrew ?_ | with_reducible refine below_drewN ?_ _ | with_reducible refine bset ?_ ?_ _ | with_reducible exact Nat.le_refl _ | with_reducible refine bsize ?_ | (dsimp only; refine Nat.le_trans ?_ (Nat.le_add_right _ _)) | with_reducible refine Nat.le_trans ?_ (Nat.le_add_right _ _) | (with_reducible refine bstep ?_ (by assumption))))) hb6
        have ha0 : w6.cell? ⟨w5.heap.size, 0, none⟩ = some (.int .i64 hx) := (hb6.cell (p := ⟨w5.heap.size, 0, none⟩) (by first | (simp; done) | (simp; omega))).trans (by first | (simp [go_sem]; done) | (simp [go_sem, *]; done))
        have ha1 : w6.cell? ⟨w5.heap.size, 1, none⟩ = some (.int .i64 hy) := (hb6.cell (p := ⟨w5.heap.size, 1, none⟩) (by first | (simp; done) | (simp; omega))).trans (by first | (simp [go_sem]; done) | (simp [go_sem, *]; done))
        have haz : w5.heap.size < w6.heap.size := Nat.lt_of_lt_of_le (by first | (simp; done) | (simp; omega)) hb6.size
        replace ra0 := keepa f6 raz ra0
        replace ra1 := keepa f6 raz ra1
        replace rb0 := keepa f6 rbz rb0
        replace rb1 := keepa f6 rbz rb1
        replace raz := Nat.lt_of_lt_of_le raz f6.size
        replace rbz := Nat.lt_of_lt_of_le rbz f6.size
        replace o1 := ownsRow_below o1 f6
        replace o2 := ownsRow_below o2 f6
        have bq6 := bstep bq5 f6
        clear hb6 f6 bq5
        go_wp2_with fail; refine (HLastFulli.out _).mono ?_; rintro e w7 ⟨rfl, hb7⟩
        have f7 : Below w6.heap.size w6 w7 := bstep (show Below w6.heap.size w6 _ by (repeat (first | with_reducible exact Below.refl _ _ | with_reducible assumption | with_reducible refine balloc ?_ _ | with_reducible refine bdrew ?_ | with_reducible refine below_drewN ?_ _ | with_reducible refine bset ?_ ?_ _ | with_reducible exact Nat.le_refl _ | with_reducible refine bsize ?_ | (dsimp only; refine Nat.le_trans ?_ (Nat.le_add_right _ _)) | with_reducible refine Nat.le_trans ?_ (Nat.le_add_right _ _) | (with_reducible refine bstep ?_ (by assumption))))) hb7
        have hb0 : w7.cell? ⟨w6.heap.size, 0, none⟩ = some (.int .i64 hx) := (hb7.cell (p := ⟨w6.heap.size, 0, none⟩) (by first | (simp; done) | (simp; omega))).trans (by first | (simp [go_sem]; done) | (simp [go_sem, *]; done))
        have hb1 : w7.cell? ⟨w6.heap.size, 1, none⟩ = some (.int .i64 hy) := (hb7.cell (p := ⟨w6.heap.size, 1, none⟩) (by first | (simp; done) | (simp; omega))).trans (by first | (simp [go_sem]; done) | (simp [go_sem, *]; done))
        have hbz : w6.heap.size < w7.heap.size := Nat.lt_of_lt_of_le (by first | (simp; done) | (simp; omega)) hb7.size
        replace ra0 := keepa f7 raz ra0
        replace ra1 := keepa f7 raz ra1
        replace rb0 := keepa f7 rbz rb0
        replace rb1 := keepa f7 rbz rb1
        replace ha0 := keepa f7 haz ha0
        replace ha1 := keepa f7 haz ha1
        replace raz := Nat.lt_of_lt_of_le raz f7.size
        replace rbz := Nat.lt_of_lt_of_le rbz f7.size
        replace haz := Nat.lt_of_lt_of_le haz f7.size
        replace o1 := ownsRow_below o1 f7
        replace o2 := ownsRow_below o2 f7
        have bq7 := bstep bq6 f7
        clear hb7 f7 bq6
        go_wp2_with fail; refine (HLastFulls.out _).mono ?_; rintro e w8 ⟨rfl, hb8⟩
        have f8 : Below w7.heap.size w7 w8 := bstep (show Below w7.heap.size w7 _ by (repeat (first | with_reducible exact Below.refl _ _ | with_reducible assumption | with_reducible refine balloc ?_ _ | with_reducible refine bdrew ?_ | with_reducible refine below_drewN ?_ _ | with_reducible refine bset ?_ ?_ _ | with_reducible exact Nat.le_refl _ | with_reducible refine bsize ?_ | (dsimp only; refine Nat.le_trans ?_ (Nat.le_add_right _ _)) | with_reducible refine Nat.le_trans ?_ (Nat.le_add_right _ _) | (with_reducible refine bstep ?_ (by assumption))))) hb8
        have ua0 : w8.cell? ⟨w7.heap.size, 0, none⟩ = some (.int .i64 fx) := (hb8.cell (p := ⟨w7.heap.size, 0, none⟩) (by first | (simp; done) | (simp; omega))).trans (by first | (simp [go_sem]; done) | (simp [go_sem, *]; done))
        have ua1 : w8.cell? ⟨w7.heap.size, 1, none⟩ = some (.int .i64 fy) := (hb8.cell (p := ⟨w7.heap.size, 1, none⟩) (by first | (simp; done) | (simp; omega))).trans (by first | (simp [go_sem]; done) | (simp [go_sem, *]; done))
        have uaz : w7.heap.size < w8.heap.size := Nat.lt_of_lt_of_le (by first | (simp; done) | (simp; omega)) hb8.size
        replace ra0 := keepa f8 raz ra0
        replace ra1 := keepa f8 raz ra1
        replace rb0 := keepa f8 rbz rb0
        replace rb1 := keepa f8 rbz rb1
        replace ha0 := keepa f8 haz ha0
        replace ha1 := keepa f8 haz ha1
        replace hb0 := keepa f8 hbz hb0
        replace hb1 := keepa f8 hbz hb1
        replace raz := Nat.lt_of_lt_of_le raz f8.size
        replace rbz := Nat.lt_of_lt_of_le rbz f8.size
        replace haz := Nat.lt_of_lt_of_le haz f8.size
        replace hbz := Nat.lt_of_lt_of_le hbz f8.size
        replace o1 := ownsRow_below o1 f8
        replace o2 := ownsRow_below o2 f8
        have bq8 := bstep bq7 f8
        clear hb8 f8 bq7
        go_wp2_with fail; refine (HDrivenByAlli.out _).mono ?_; rintro e w9 ⟨rfl, hb9⟩
        have f9 : Below w8.heap.size w8 w9 := bstep (show Below w8.heap.size w8 _ by (repeat (first | with_reducible exact Below.refl _ _ | with_reducible assumption | with_reducible refine balloc ?_ _ | with_reducible refine bdrew ?_ | with_reducible refine below_drewN ?_ _ | with_reducible refine bset ?_ ?_ _ | with_reducible exact Nat.le_refl _ | with_reducible refine bsize ?_ | (dsimp only; refine Nat.le_trans ?_ (Nat.le_add_right _ _)) | with_reducible refine Nat.le_trans ?_ (Nat.le_add_right _ _) | (with_reducible refine bstep ?_ (by assumption))))) hb9
        have ub0 : w9.cell? ⟨w8.heap.size, 0, none⟩ = some (.int .i64 fx) := (hb9.cell (p := ⟨w8.heap.size, 0, none⟩) (by first | (simp; done) | (simp; omega))).trans (by first | (simp [go_sem]; done) | (simp [go_sem, *]; done))
        have ub1 : w9.cell? ⟨w8.heap.size, 1, none⟩ = some (.int .i64 fy) := (hb9.cell (p := ⟨w8.heap.size, 1, none⟩) (by first | (simp; done) | (simp; omega))).trans (by first | (simp [go_sem]; done) | (simp [go_sem, *]; done))
        have ubz : w8.heap.size < w9.heap.size := Nat.lt_of_lt_of_le (by first | (simp; done) | (simp; omega)) hb9.size
        replace ra0 := keepa f9 raz ra0
        replace ra1 := keepa f9 raz ra1
        replace rb0 := keepa f9 rbz rb0
        replace rb1 := keepa f9 rbz rb1
        replace ha0 := keepa f9 haz ha0
        replace ha1 := keepa f9 haz ha1
        replace hb0 := keepa f9 hbz hb0
        replace hb1 := keepa f9 hbz hb1
        replace ua0 := keepa f9 uaz ua0
        replace ua1 := keepa f9 uaz ua1
        replace raz := Nat.lt_of_lt_of_le raz f9.size
        replace rbz := Nat.lt_of_lt_of_le rbz f9.size
        replace haz := Nat.lt_of_lt_of_le haz f9.size
        replace hbz := Nat.lt_of_lt_of_le hbz f9.size
        replace uaz := Nat.lt_of_lt_of_le uaz f9.size
        replace o1 := ownsRow_below o1 f9
        replace o2 := ownsRow_below o2 f9
        have bq9 := bstep bq8 f9
        clear hb9 f9 bq8
        go_wp2_with fail; refine (HDrivenByAlls.out _).mono ?_; rintro e w10 ⟨rfl, hb10⟩
        have f10 : Below w9.heap.size w9 w10 := bstep (show Below w9.heap.size w9 _ by (repeat (first | with_reducible exact Below.refl _ _ | with_reducible assumption | with_reducible refine balloc ?_ _ | with_reducible refine bdrew ?_ | with_reducible refine below_drewN ?_ _ | with_reducible refine bset ?_ ?_ _ | with_reducible exact Nat.le_refl _ | with_reducible refine bsize ?_ | (dsimp only; refine Nat.le_trans ?_ (Nat.le_add_right _ _)) | with_reducible refine Nat.le_trans ?_ (Nat.le_add_right _ _) | (with_reducible refine bstep ?_ (by assumption))))) hb10
        have da0 : w10.cell? ⟨w9.heap.size, 0, none⟩ = some (.int .i64 dx) := (hb10.cell (p := ⟨w9.heap.size, 0, none⟩) (by first | (simp; done) | (simp; omega))).trans (by first | (simp [go_sem]; done) | (simp [go_sem, *]; done))
        have da1 : w10.cell? ⟨w9.heap.size, 1, none⟩ = some (.int .i64 dy) := (hb10.cell (p := ⟨w9.heap.size, 1, none⟩) (by first | (simp; done) | (simp; omega))).trans (by first | (simp [go_sem]; done) | (simp [go_sem, *]; done))
        have daz : w9.heap.size < w10.heap.size := Nat.lt_of_lt_of_le (by first | (simp; done) | (simp; omega)) hb10.size
        replace ra0 := keepa f10 raz ra0
        replace ra1 := keepa f10 raz ra1
        replace rb0 := keepa f10 rbz rb0
        replace rb1 := keepa f10 rbz rb1
        replace ha0 := keepa f10 haz ha0
        replace ha1 := keepa f10 haz ha1
        replace hb0 := keepa f10 hbz hb0
        replace hb1 := keepa f10 hbz hb1
        replace ua0 := keepa f10 uaz ua0
        replace ua1 := keepa f10 uaz ua1
        replace ub0 := keepa f10 ubz ub0
        replace ub1 := keepa f10 ubz ub1
        replace raz := Nat.lt_of_lt_of_le raz f10.size
        replace rbz := Nat.lt_of_lt_of_le rbz f10.size
        replace haz := Nat.lt_of_lt_of_le haz f10.size
        replace hbz := Nat.lt_of_lt_of_le hbz f10.size
        replace uaz := Nat.lt_of_lt_of_le uaz f10.size
        replace ubz := Nat.lt_of_lt_of_le ubz f10.size
        replace o1 := ownsRow_below o1 f10
        replace o2 := ownsRow_below o2 f10
        have bq10 := bstep bq9 f10
        clear hb10 f10 bq9
        go_wp2_with fail; refine (HStayStopsi.out _).mono ?_; rintro e w11 ⟨v3, rfl, o3, hb11⟩
        have f11 : Below w10.heap.size w10 w11 := bstep (show Below w10.heap.size w10 _ by (repeat (first | with_reducible exact Below.refl _ _ | with_reducible assumption | with_reducible refine balloc ?_ _ | with_reducible refine bdrew ?_ | with_reducible refine below_drewN ?_ _ | with_reducible refine bset ?_ ?_ _ | with_reducible exact Nat.le_refl _ | with_reducible refine bsize ?_ | (dsimp only; refine Nat.le_trans ?_ (Nat.le_add_right _ _)) | with_reducible refine Nat.le_trans ?_ (Nat.le_add_right _ _) | (with_reducible refine bstep ?_ (by assumption))))) hb11
        have db0 : w11.cell? ⟨w10.heap.size, 0, none⟩ = some (.int .i64 dx) := (hb11.cell (p := ⟨w10.heap.size, 0, none⟩) (by first | (simp; done) | (simp; omega))).trans (by first | (simp [go_sem]; done) | (simp [go_sem, *]; done))
        have db1 : w11.cell? ⟨w10.heap.size, 1, none⟩ = some (.int .i64 dy) := (hb11.cell (p := ⟨w10.heap.size, 1, none⟩) (by first | (simp; done) | (simp; omega))).trans (by first | (simp [go_sem]; done) | (simp [go_sem, *]; done))
        have dbz : w10.heap.size < w11.heap.size := Nat.lt_of_lt_of_le (by first | (simp; done) | (simp; omega)) hb11.size
        replace ra0 := keepa f11 raz ra0
        replace ra1 := keepa f11 raz ra1
        replace rb0 := keepa f11 rbz rb0
        replace rb1 := keepa f11 rbz rb1
        replace ha0 := keepa f11 haz ha0
        replace ha1 := keepa f11 haz ha1
        replace hb0 := keepa f11 hbz hb0
        replace hb1 := keepa f11 hbz hb1
        replace ua0 := keepa f11 uaz ua0
        replace ua1 := keepa f11 uaz ua1
        replace ub0 := keepa f11 ubz ub0
        replace ub1 := keepa f11 ubz ub1
        replace da0 := keepa f11 daz da0
        replace da1 := keepa f11 daz da1
        replace raz := Nat.lt_of_lt_of_le raz f11.size
        replace rbz := Nat.lt_of_lt_of_le rbz f11.size
        replace haz := Nat.lt_of_lt_of_le haz f11.size
        replace hbz := Nat.lt_of_lt_of_le hbz f11.size
        replace uaz := Nat.lt_of_lt_of_le uaz f11.size
        replace ubz := Nat.lt_of_lt_of_le ubz f11.size
        replace daz := Nat.lt_of_lt_of_le daz f11.size
        replace o1 := ownsRow_below o1 f11
        replace o2 := ownsRow_below o2 f11
        have bq11 := bstep bq10 f11
        clear hb11 f11 bq10
        go_wp2_with fail; refine (HStayStopss.out _).mono ?_; rintro e w12 ⟨v4, rfl, o4, hb12⟩
        have f12 : Below w11.heap.size w11 w12 := bstep (show Below w11.heap.size w11 _ by (repeat (first | with_reducible exact Below.refl _ _ | with_reducible assumption | with_reducible refine balloc ?_ _ | with_reducible refine bdrew ?_ | with_reducible refine below_drewN ?_ _ | with_reducible refine bset ?_ ?_ _ | with_reducible exact Nat.le_refl _ | with_reducible refine bsize ?_ | (dsimp only; refine Nat.le_trans ?_ (Nat.le_add_right _ _)) | with_reducible refine Nat.le_trans ?_ (Nat.le_add_right _ _) | (with_reducible refine bstep ?_ (by assumption))))) hb12
        replace ra0 := keepa f12 raz ra0
        replace ra1 := keepa f12 raz ra1
        replace rb0 := keepa f12 rbz rb0
        replace rb1 := keepa f12 rbz rb1
        replace ha0 := keepa f12 haz ha0
        replace ha1 := keepa f12 haz ha1
        replace hb0 := keepa f12 hbz hb0
        replace hb1 := keepa f12 hbz hb1
        replace ua0 := keepa f12 uaz ua0
        replace ua1 := keepa f12 uaz ua1
        replace ub0 := keepa f12 ubz ub0
        replace ub1 := keepa f12 ubz ub1
        replace da0 := keepa f12 daz da0
        replace da1 := keepa f12 daz da1
        replace db0 := keepa f12 dbz db0
        replace db1 := keepa f12 dbz db1
        replace raz := Nat.lt_of_lt_of_le raz f12.size
        replace rbz := Nat.lt_of_lt_of_le rbz f12.size
        replace haz := Nat.lt_of_lt_of_le haz f12.size
        replace hbz := Nat.lt_of_lt_of_le hbz f12.size
        replace uaz := Nat.lt_of_lt_of_le uaz f12.size
        replace ubz := Nat.lt_of_lt_of_le ubz f12.size
        replace daz := Nat.lt_of_lt_of_le daz f12.size
        replace dbz := Nat.lt_of_lt_of_le dbz f12.size
        replace o1 := ownsRow_below o1 f12
        replace o2 := ownsRow_below o2 f12
        replace o3 := ownsRow_below o3 f12
        have bq12 := bstep bq11 f12
        clear hb12 f12 bq11
        go_wp2_with fail; refine (HStayReachi.out _).mono ?_; rintro e w13 ⟨rfl, hb13⟩
        have f13 : Below w12.heap.size w12 w13 := bstep (show Below w12.heap.size w12 _ by (repeat (first | with_reducible exact Below.refl _ _ | with_reducible assumption | with_reducible refine balloc ?_ _ | with_reducible refine bdrew ?_ | with_reducible refine below_drewN ?_ _ | with_reducible refine bset ?_ ?_ _ | with_reducible exact Nat.le_refl _ | with_reducible refine bsize ?_ | (dsimp only; refine Nat.le_trans ?_ (Nat.le_add_right _ _)) | with_reducible refine Nat.le_trans ?_ (Nat.le_add_right _ _) | (with_reducible refine bstep ?_ (by assumption))))) hb13
        replace ra0 := keepa f13 raz ra0
        replace ra1 := keepa f13 raz ra1
        replace rb0 := keepa f13 rbz rb0
        replace rb1 := keepa f13 rbz rb1
        replace ha0 := keepa f13 haz ha0
        replace ha1 := keepa f13 haz ha1
        replace hb0 := keepa f13 hbz hb0
        replace hb1 := keepa f13 hbz hb1
        replace ua0 := keepa f13 uaz ua0
        replace ua1 := keepa f13 uaz ua1
        replace ub0 := keepa f13 ubz ub0
        replace ub1 := keepa f13 ubz ub1
        replace da0 := keepa f13 daz da0
        replace da1 := keepa f13 daz da1
        replace db0 := keepa f13 dbz db0
        replace db1 := keepa f13 dbz db1
        replace raz := Nat.lt_of_lt_of_le raz f13.size
        replace rbz := Nat.lt_of_lt_of_le rbz f13.size
        replace haz := Nat.lt_of_lt_of_le haz f13.size
        replace hbz := Nat.lt_of_lt_of_le hbz f13.size
        replace uaz := Nat.lt_of_lt_of_le uaz f13.size
        replace ubz := Nat.lt_of_lt_of_le ubz f13.size
        replace daz := Nat.lt_of_lt_of_le daz f13.size
        replace dbz := Nat.lt_of_lt_of_le dbz f13.size
        replace o1 := ownsRow_below o1 f13
        replace o2 := ownsRow_below o2 f13
        replace o3 := ownsRow_below o3 f13
        replace o4 := ownsRow_below o4 f13
        have bq13 := bstep bq12 f13
        clear hb13 f13 bq12
        go_wp2_with fail; refine (HStayReachs.out _).mono ?_; rintro e w14 ⟨rfl, hb14⟩
        have f14 : Below w13.heap.size w13 w14 := bstep (show Below w13.heap.size w13 _ by (repeat (first | with_reducible exact Below.refl _ _ | with_reducible assumption | with_reducible refine balloc ?_ _ | with_reducible refine bdrew ?_ | with_reducible refine below_drewN ?_ _ | with_reducible refine bset ?_ ?_ _ | with_reducible exact Nat.le_refl _ | with_reducible refine bsize ?_ | (dsimp only; refine Nat.le_trans ?_ (Nat.le_add_right _ _)) | with_reducible refine Nat.le_trans ?_ (Nat.le_add_right _ _) | (with_reducible refine bstep ?_ (by assumption))))) hb14
        have sa0 : w14.cell? ⟨w13.heap.size, 0, none⟩ = some (.int .i64 sx) := (hb14.cell (p := ⟨w13.heap.size, 0, none⟩) (by first | (simp; done) | (simp; omega))).trans (by first | (simp [go_sem]; done) | (simp [go_sem, *]; done))
        have sa1 : w14.cell? ⟨w13.heap.size, 1, none⟩ = some (.int .i64 sy) := (hb14.cell (p := ⟨w13.heap.size, 1, none⟩) (by first | (simp; done) | (simp; omega))).trans (by first | (simp [go_sem]; done) | (simp [go_sem, *]; done))
        have saz : w13.heap.size < w14.heap.size := Nat.lt_of_lt_of_le (by first | (simp; done) | (simp; omega)) hb14.size
        replace ra0 := keepa f14 raz ra0
        replace ra1 := keepa f14 raz ra1
        replace rb0 := keepa f14 rbz rb0
        replace rb1 := keepa f14 rbz rb1
        replace ha0 := keepa f14 haz ha0
        replace ha1 := keepa f14 haz ha1
        replace hb0 := keepa f14 hbz hb0
        replace hb1 := keepa f14 hbz hb1
        replace ua0 := keepa f14 uaz ua0
        replace ua1 := keepa f14 uaz ua1
        replace ub0 := keepa f14 ubz ub0
        replace ub1 := keepa f14 ubz ub1
        replace da0 := keepa f14 daz da0
        replace da1 := keepa f14 daz da1
        replace db0 := keepa f14 dbz db0
        replace db1 := keepa f14 dbz db1
        replace raz := Nat.lt_of_lt_of_le raz f14.size
        replace rbz := Nat.lt_of_lt_of_le rbz f14.size
        replace haz := Nat.lt_of_lt_of_le haz f14.size
        replace hbz := Nat.lt_of_lt_of_le hbz f14.size
        replace uaz := Nat.lt_of_lt_of_le uaz f14.size
        replace ubz := Nat.lt_of_lt_of_le ubz f14.size
        replace daz := Nat.lt_of_lt_of_le daz f14.size
        replace dbz := Nat.lt_of_lt_of_le dbz f14.size
        replace o1 := ownsRow_below o1 f14
        replace o2 := ownsRow_below o2 f14
        replace o3 := ownsRow_below o3 f14
        replace o4 := ownsRow_below o4 f14
        have bq14 := bstep bq13 f14
        clear hb14 f14 bq13
        go_upto_region 18 with fail
        refine (fun (h : ∀ V, V = _ → Code.wp _ _ _ _ V) => h _ rfl) ?_
        intro w15 hV15
        have f15 : Below w14.heap.size w14 w15 := by rw [hV15]; (repeat (first | with_reducible exact Below.refl _ _ | with_reducible assumption | with_reducible refine balloc ?_ _ | with_reducible refine bdrew ?_ | with_reducible refine below_drewN ?_ _ | with_reducible refine bset ?_ ?_ _ | with_reducible exact Nat.le_refl _ | with_reducible refine bsize ?_ | (dsimp only; refine Nat.le_trans ?_ (Nat.le_add_right _ _)) | with_reducible refine Nat.le_trans ?_ (Nat.le_add_right _ _) | (with_reducible refine bstep ?_ (by assumption))))
        have sb0 : w15.cell? ⟨w14.heap.size, 0, none⟩ = some (.int .i64 sx) := by rw [hV15]; first | (simp [go_sem]; done) | (simp [go_sem, *]; done)
        have sb1 : w15.cell? ⟨w14.heap.size, 1, none⟩ = some (.int .i64 sy) := by rw [hV15]; first | (simp [go_sem]; done) | (simp [go_sem, *]; done)
        have sbz : w14.heap.size < w15.heap.size := by rw [hV15]; first | (simp; done) | (simp; omega)
        replace ra0 := keepa f15 raz ra0
        replace ra1 := keepa f15 raz ra1
        replace rb0 := keepa f15 rbz rb0
        replace rb1 := keepa f15 rbz rb1
        replace ha0 := keepa f15 haz ha0
        replace ha1 := keepa f15 haz ha1
        replace hb0 := keepa f15 hbz hb0
        replace hb1 := keepa f15 hbz hb1
        replace ua0 := keepa f15 uaz ua0
        replace ua1 := keepa f15 uaz ua1
        replace ub0 := keepa f15 ubz ub0
        replace ub1 := keepa f15 ubz ub1
        replace da0 := keepa f15 daz da0
        replace da1 := keepa f15 daz da1
        replace db0 := keepa f15 dbz db0
        replace db1 := keepa f15 dbz db1
        replace sa0 := keepa f15 saz sa0
        replace sa1 := keepa f15 saz sa1
        replace raz := Nat.lt_of_lt_of_le raz f15.size
        replace rbz := Nat.lt_of_lt_of_le rbz f15.size
        replace haz := Nat.lt_of_lt_of_le haz f15.size
        replace hbz := Nat.lt_of_lt_of_le hbz f15.size
        replace uaz := Nat.lt_of_lt_of_le uaz f15.size
        replace ubz := Nat.lt_of_lt_of_le ubz f15.size
        replace daz := Nat.lt_of_lt_of_le daz f15.size
        replace dbz := Nat.lt_of_lt_of_le dbz f15.size
        replace saz := Nat.lt_of_lt_of_le saz f15.size
        replace o1 := ownsRow_below o1 f15
        replace o2 := ownsRow_below o2 f15
        replace o3 := ownsRow_below o3 f15
        replace o4 := ownsRow_below o4 f15
        have bq15 := bstep bq14 f15
        clear hV15 f15 bq14
        go_wp2_with fail; refine (xStops_same _ _ _ _ _ _ LB.out o1 o2).mono ?_; rintro e w16 ⟨rfl, hb16⟩
        have f16 : Below w15.heap.size w15 w16 := bstep (show Below w15.heap.size w15 _ by (repeat (first | with_reducible exact Below.refl _ _ | with_reducible assumption | with_reducible refine balloc ?_ _ | with_reducible refine bdrew ?_ | with_reducible refine below_drewN ?_ _ | with_reducible refine bset ?_ ?_ _ | with_reducible exact Nat.le_refl _ | with_reducible refine bsize ?_ | (dsimp only; refine Nat.le_trans ?_ (Nat.le_add_right _ _)) | with_reducible refine Nat.le_trans ?_ (Nat.le_add_right _ _) | (with_reducible refine bstep ?_ (by assumption))))) hb16
        replace ra0 := keepa f16 raz ra0
        replace ra1 := keepa f16 raz ra1
        replace rb0 := keepa f16 rbz rb0
        replace rb1 := keepa f16 rbz rb1
        replace ha0 := keepa f16 haz ha0
        replace ha1 := keepa f16 haz ha1
        replace hb0 := keepa f16 hbz hb0
        replace hb1 := keepa f16 hbz hb1
        replace ua0 := keepa f16 uaz ua0
        replace ua1 := keepa f16 uaz ua1
        replace ub0 := keepa f16 ubz ub0
        replace ub1 := keepa f16 ubz ub1
        replace da0 := keepa f16 daz da0
        replace da1 := keepa f16 daz da1
        replace db0 := keepa f16 dbz db0
        replace db1 := keepa f16 dbz db1
        replace sa0 := keepa f16 saz sa0
        replace sa1 := keepa f16 saz sa1
        replace sb0 := keepa f16 sbz sb0
        replace sb1 := keepa f16 sbz sb1
        replace raz := Nat.lt_of_lt_of_le raz f16.size
        replace rbz := Nat.lt_of_lt_of_le rbz f16.size
        replace haz := Nat.lt_of_lt_of_le haz f16.size
        replace hbz := Nat.lt_of_lt_of_le hbz f16.size
        replace uaz := Nat.lt_of_lt_of_le uaz f16.size
        replace ubz := Nat.lt_of_lt_of_le ubz f16.size
        replace daz := Nat.lt_of_lt_of_le daz f16.size
        replace dbz := Nat.lt_of_lt_of_le dbz f16.size
        replace saz := Nat.lt_of_lt_of_le saz f16.size
        replace sbz := Nat.lt_of_lt_of_le sbz f16.size
        replace o1 := ownsRow_below o1 f16
        replace o2 := ownsRow_below o2 f16
        replace o3 := ownsRow_below o3 f16
        replace o4 := ownsRow_below o4 f16
        have bq16 := bstep bq15 f16
        clear hb16 f16 bq15
        go_wp2_with fail; refine (xStops_same _ _ _ _ _ _ LS.out o3 o4).mono ?_; rintro e w17 ⟨rfl, hb17⟩
        have f17 : Below w16.heap.size w16 w17 := bstep (show Below w16.heap.size w16 _ by (repeat (first | with_reducible exact Below.refl _ _ | with_reducible assumption | with_reducible refine balloc ?_ _ | with_reducible refine bdrew ?_ | with_reducible refine below_drewN ?_ _ | with_reducible refine bset ?_ ?_ _ | with_reducible exact Nat.le_refl _ | with_reducible refine bsize ?_ | (dsimp only; refine Nat.le_trans ?_ (Nat.le_add_right _ _)) | with_reducible refine Nat.le_trans ?_ (Nat.le_add_right _ _) | (with_reducible refine bstep ?_ (by assumption))))) hb17
        replace ra0 := keepa f17 raz ra0
        replace ra1 := keepa f17 raz ra1
        replace rb0 := keepa f17 rbz rb0
        replace rb1 := keepa f17 rbz rb1
        replace ha0 := keepa f17 haz ha0
        replace ha1 := keepa f17 haz ha1
        replace hb0 := keepa f17 hbz hb0
        replace hb1 := keepa f17 hbz hb1
        replace ua0 := keepa f17 uaz ua0
        replace ua1 := keepa f17 uaz ua1
        replace ub0 := keepa f17 ubz ub0
        replace ub1 := keepa f17 ubz ub1
        replace da0 := keepa f17 daz da0
        replace da1 := keepa f17 daz da1
        replace db0 := keepa f17 dbz db0
        replace db1 := keepa f17 dbz db1
        replace sa0 := keepa f17 saz sa0
        replace sa1 := keepa f17 saz sa1
        replace sb0 := keepa f17 sbz sb0
        replace sb1 := keepa f17 sbz sb1
        replace raz := Nat.lt_of_lt_of_le raz f17.size
        replace rbz := Nat.lt_of_lt_of_le rbz f17.size
        replace haz := Nat.lt_of_lt_of_le haz f17.size
        replace hbz := Nat.lt_of_lt_of_le hbz f17.size
        replace uaz := Nat.lt_of_lt_of_le uaz f17.size
        replace ubz := Nat.lt_of_lt_of_le ubz f17.size
        replace daz := Nat.lt_of_lt_of_le daz f17.size
        replace dbz := Nat.lt_of_lt_of_le dbz f17.size
        replace saz := Nat.lt_of_lt_of_le saz f17.size
        replace sbz := Nat.lt_of_lt_of_le sbz f17.size
        replace o1 := ownsRow_below o1 f17
        replace o2 := ownsRow_below o2 f17
        replace o3 := ownsRow_below o3 f17
        replace o4 := ownsRow_below o4 f17
        have bq17 := bstep bq16 f17
        clear hb17 f17 bq16
        rw [EB.out] at o1
        rw [ES.out] at o3
        obtain ⟨a1, k1, rfl⟩ := owns_shape o1
        obtain ⟨a3, k3, rfl⟩ := owns_shape o3
        clear o2 o4
        go_wp2_with fail; refine (is_con ED.out _).mono ?_; rintro e w18 ⟨rfl, hb18⟩
        have f18 : Below w17.heap.size w17 w18 := bstep (show Below w17.heap.size w17 _ by (repeat (first | with_reducible exact Below.refl _ _ | with_reducible assumption | with_reducible refine balloc ?_ _ | with_reducible refine bdrew ?_ | with_reducible refine below_drewN ?_ _ | with_reducible refine bset ?_ ?_ _ | with_reducible exact Nat.le_refl _ | with_reducible refine bsize ?_ | (dsimp only; refine Nat.le_trans ?_ (Nat.le_add_right _ _)) | with_reducible refine Nat.le_trans ?_ (Nat.le_add_right _ _) | (with_reducible refine bstep ?_ (by assumption))))) hb18
        replace ra0 := keepa f18 raz ra0
        replace ra1 := keepa f18 raz ra1
        replace rb0 := keepa f18 rbz rb0
        replace rb1 := keepa f18 rbz rb1
        replace ha0 := keepa f18 haz ha0
        replace ha1 := keepa f18 haz ha1
        replace hb0 := keepa f18 hbz hb0
        replace hb1 := keepa f18 hbz hb1
        replace ua0 := keepa f18 uaz ua0
        replace ua1 := keepa f18 uaz ua1
        replace ub0 := keepa f18 ubz ub0
        replace ub1 := keepa f18 ubz ub1
        replace da0 := keepa f18 daz da0
        replace da1 := keepa f18 daz da1
        replace db0 := keepa f18 dbz db0
        replace db1 := keepa f18 dbz db1
        replace sa0 := keepa f18 saz sa0
        replace sa1 := keepa f18 saz sa1
        replace sb0 := keepa f18 sbz sb0
        replace sb1 := keepa f18 sbz sb1
        replace raz := Nat.lt_of_lt_of_le raz f18.size
        replace rbz := Nat.lt_of_lt_of_le rbz f18.size
        replace haz := Nat.lt_of_lt_of_le haz f18.size
        replace hbz := Nat.lt_of_lt_of_le hbz f18.size
        replace uaz := Nat.lt_of_lt_of_le uaz f18.size
        replace ubz := Nat.lt_of_lt_of_le ubz f18.size
        replace daz := Nat.lt_of_lt_of_le daz f18.size
        replace dbz := Nat.lt_of_lt_of_le dbz f18.size
        replace saz := Nat.lt_of_lt_of_le saz f18.size
        replace sbz := Nat.lt_of_lt_of_le sbz f18.size
        replace o1 := ownsRow_below o1 f18
        replace o3 := ownsRow_below o3 f18
        have bq18 := bstep bq17 f18
        clear hb18 f18 bq17
        clear hb0 hb1 hbz ub0 ub1 ubz db0 db1 dbz rb0 rb1 rbz sb0 sb1 sbz
        go_wp2_with fail; refine (is_con ER.out _).mono ?_; rintro e w19 ⟨rfl, hb19⟩
        have f19 : Below w18.heap.size w18 w19 := bstep (show Below w18.heap.size w18 _ by (repeat (first | with_reducible exact Below.refl _ _ | with_reducible assumption | with_reducible refine balloc ?_ _ | with_reducible refine bdrew ?_ | with_reducible refine below_drewN ?_ _ | with_reducible refine bset ?_ ?_ _ | with_reducible exact Nat.le_refl _ | with_reducible refine bsize ?_ | (dsimp only; refine Nat.le_trans ?_ (Nat.le_add_right _ _)) | with_reducible refine Nat.le_trans ?_ (Nat.le_add_right _ _) | (with_reducible refine bstep ?_ (by assumption))))) hb19
        replace ra0 := keepa f19 raz ra0
        replace ra1 := keepa f19 raz ra1
        replace ha0 := keepa f19 haz ha0
        replace ha1 := keepa f19 haz ha1
        replace ua0 := keepa f19 uaz ua0
        replace ua1 := keepa f19 uaz ua1
        replace da0 := keepa f19 daz da0
        replace da1 := keepa f19 daz da1
        replace sa0 := keepa f19 saz sa0
        replace sa1 := keepa f19 saz sa1
        replace raz := Nat.lt_of_lt_of_le raz f19.size
        replace haz := Nat.lt_of_lt_of_le haz f19.size
        replace uaz := Nat.lt_of_lt_of_le uaz f19.size
        replace daz := Nat.lt_of_lt_of_le daz f19.size
        replace saz := Nat.lt_of_lt_of_le saz f19.size
        replace o1 := ownsRow_below o1 f19
        replace o3 := ownsRow_below o3 f19
        have bq19 := bstep bq18 f19
        clear hb19 f19 bq18
        go_wp2_with fail; refine (is_con EH.out _).mono ?_; rintro e w20 ⟨rfl, hb20⟩
        have f20 : Below w19.heap.size w19 w20 := bstep (show Below w19.heap.size w19 _ by (repeat (first | with_reducible exact Below.refl _ _ | with_reducible assumption | with_reducible refine balloc ?_ _ | with_reducible refine bdrew ?_ | with_reducible refine below_drewN ?_ _ | with_reducible refine bset ?_ ?_ _ | with_reducible exact Nat.le_refl _ | with_reducible refine bsize ?_ | (dsimp only; refine Nat.le_trans ?_ (Nat.le_add_right _ _)) | with_reducible refine Nat.le_trans ?_ (Nat.le_add_right _ _) | (with_reducible refine bstep ?_ (by assumption))))) hb20
        replace ra0 := keepa f20 raz ra0
        replace ra1 := keepa f20 raz ra1
        replace ha0 := keepa f20 haz ha0
        replace ha1 := keepa f20 haz ha1
        replace ua0 := keepa f20 uaz ua0
        replace ua1 := keepa f20 uaz ua1
        replace da0 := keepa f20 daz da0
        replace da1 := keepa f20 daz da1
        replace sa0 := keepa f20 saz sa0
        replace sa1 := keepa f20 saz sa1
        replace raz := Nat.lt_of_lt_of_le raz f20.size
        replace haz := Nat.lt_of_lt_of_le haz f20.size
        replace uaz := Nat.lt_of_lt_of_le uaz f20.size
        replace daz := Nat.lt_of_lt_of_le daz f20.size
        replace saz := Nat.lt_of_lt_of_le saz f20.size
        replace o1 := ownsRow_below o1 f20
        replace o3 := ownsRow_below o3 f20
        have bq20 := bstep bq19 f20
        clear hb20 f20 bq19
        have HLs := Lib.hid (fun W => less_con S1.out S2.out S3.out S4.out W)
        rw [EL.out] at HLs
        go_wp2_with fail; refine (HLs.out _).mono ?_; rintro e w21 ⟨rfl, hb21⟩
        have f21 : Below w20.heap.size w20 w21 := bstep (show Below w20.heap.size w20 _ by (repeat (first | with_reducible exact Below.refl _ _ | with_reducible assumption | with_reducible refine balloc ?_ _ | with_reducible refine bdrew ?_ | with_reducible refine below_drewN ?_ _ | with_reducible refine bset ?_ ?_ _ | with_reducible exact Nat.le_refl _ | with_reducible refine bsize ?_ | (dsimp only; refine Nat.le_trans ?_ (Nat.le_add_right _ _)) | with_reducible refine Nat.le_trans ?_ (Nat.le_add_right _ _) | (with_reducible refine bstep ?_ (by assumption))))) hb21
        replace ra0 := keepa f21 raz ra0
        replace ra1 := keepa f21 raz ra1
        replace ha0 := keepa f21 haz ha0
        replace ha1 := keepa f21 haz ha1
        replace ua0 := keepa f21 uaz ua0
        replace ua1 := keepa f21 uaz ua1
        replace da0 := keepa f21 daz da0
        replace da1 := keepa f21 daz da1
        replace sa0 := keepa f21 saz sa0
        replace sa1 := keepa f21 saz sa1
        replace raz := Nat.lt_of_lt_of_le raz f21.size
        replace haz := Nat.lt_of_lt_of_le haz f21.size
        replace uaz := Nat.lt_of_lt_of_le uaz f21.size
        replace daz := Nat.lt_of_lt_of_le daz f21.size
        replace saz := Nat.lt_of_lt_of_le saz f21.size
        replace o1 := ownsRow_below o1 f21
        replace o3 := ownsRow_below o3 f21
        have bq21 := bstep bq20 f21
        clear hb21 f21 bq20
        clear ha0 ha1 haz da0 da1 daz
        have netraz : w3.heap.size ≠ w21.heap.size := by omega
        have entraz : w21.heap.size ≠ w3.heap.size := by omega
        have netuaz : w7.heap.size ≠ w21.heap.size := by omega
        have entuaz : w21.heap.size ≠ w7.heap.size := by omega
        have netsaz : w13.heap.size ≠ w21.heap.size := by omega
        have entsaz : w21.heap.size ≠ w13.heap.size := by omega
        have neto1 : Value.ownBlock (.slice a1 m k1) ≠ some (w21.heap.size) := fun e => by have := (o1.lt _ e).2; omega
        have neto3 : Value.ownBlock (.slice a3 m k3) ≠ some (w21.heap.size) := fun e => by have := (o3.lt _ e).2; omega
        have llet : w.heap.size ≤ w21.heap.size := bq21.size
        go_upto_region 24 with fail
        refine (fun (h : ∀ V, V = _ → Code.wp _ _ _ _ V) => h _ rfl) ?_
        intro w22 hV22
        have f22 : Below w21.heap.size w21 w22 := by rw [hV22]; (repeat (first | with_reducible exact Below.refl _ _ | with_reducible assumption | with_reducible refine balloc ?_ _ | with_reducible refine bdrew ?_ | with_reducible refine below_drewN ?_ _ | with_reducible refine bset ?_ ?_ _ | with_reducible exact Nat.le_refl _ | with_reducible refine bsize ?_ | (dsimp only; refine Nat.le_trans ?_ (Nat.le_add_right _ _)) | with_reducible refine Nat.le_trans ?_ (Nat.le_add_right _ _) | (with_reducible refine bstep ?_ (by assumption))))
        have at0 : w22.cell? ⟨w21.heap.size, 0, none⟩ = some (.int .i64 0) := by rw [hV22]; first | (simp [go_sem]; done) | (simp [go_sem, *]; done)
        have atf0 : w22.frozen? ⟨w21.heap.size, 0, none⟩ = false := by rw [hV22]; first | (simp [go_sem]; done) | (simp [go_sem, *]; done)
        have at1 : w22.cell? ⟨w21.heap.size, 1, none⟩ = some (.int .i64 1) := by rw [hV22]; first | (simp [go_sem]; done) | (simp [go_sem, *]; done)
        have atf1 : w22.frozen? ⟨w21.heap.size, 1, none⟩ = false := by rw [hV22]; first | (simp [go_sem]; done) | (simp [go_sem, *]; done)
        have atz : w21.heap.size < w22.heap.size := by rw [hV22]; first | (simp; done) | (simp; omega)
        replace ra0 := keepa f22 raz ra0
        replace ra1 := keepa f22 raz ra1
        replace ua0 := keepa f22 uaz ua0
        replace ua1 := keepa f22 uaz ua1
        replace sa0 := keepa f22 saz sa0
        replace sa1 := keepa f22 saz sa1
        replace raz := Nat.lt_of_lt_of_le raz f22.size
        replace uaz := Nat.lt_of_lt_of_le uaz f22.size
        replace saz := Nat.lt_of_lt_of_le saz f22.size
        replace o1 := ownsRow_below o1 f22
        replace o3 := ownsRow_below o3 f22
        have bq22 := bstep bq21 f22
        clear hV22 f22 bq21
        go_wp2
        go_loopw [274] (fun c wr => ∃ i : Nat, i ≤ m ∧ c = .int .i64 i ∧ Below w.heap.size w wr ∧ wr.cell? ⟨w3.heap.size, 0, none⟩ = some (.int .i64 rx) ∧ wr.cell? ⟨w3.heap.size, 1, none⟩ = some (.int .i64 ry) ∧ wr.cell? ⟨w7.heap.size, 0, none⟩ = some (.int .i64 fx) ∧ wr.cell? ⟨w7.heap.size, 1, none⟩ = some (.int .i64 fy) ∧ wr.cell? ⟨w13.heap.size, 0, none⟩ = some (.int .i64 sx) ∧ wr.cell? ⟨w13.heap.size, 1, none⟩ = some (.int .i64 sy) ∧ wr.cell? ⟨w21.heap.size, 0, none⟩ = some (.int .i64 (atH BL i).1) ∧ wr.cell? ⟨w21.heap.size, 1, none⟩ = some (.int .i64 (atH BL i).2) ∧ wr.frozen? ⟨w21.heap.size, 0, none⟩ = false ∧ wr.frozen? ⟨w21.heap.size, 1, none⟩ = false ∧ w3.heap.size < wr.heap.size ∧ w7.heap.size < wr.heap.size ∧ w13.heap.size < wr.heap.size ∧ w21.heap.size < wr.heap.size ∧ (∃ bs, wr.ownsRow bs 58 6 (.slice a1 m k1) (m) (cellsG fHand BL)) ∧ (∃ bs, wr.ownsRow bs 58 6 (.slice a3 m k3) (m) (cellsG fHand SL))) (fun c _ => m - (intOf c).toNat)
        case atStart => exact ⟨0, Nat.zero_le _, rfl, bq22, ra0, ra1, ua0, ua1, sa0, sa1, at0, at1, atf0, atf1, raz, uaz, saz, atz, ⟨_, o1⟩, ⟨_, o3⟩⟩
        case round =>
          clear bq22 ra0 ra1 ua0 ua1 sa0 sa1 at0 at1 atf0 atf1 raz uaz saz atz o1 o3
          obtain ⟨i, hit, rfl, hbw, ra0, ra1, ua0, ua1, sa0, sa1, at0, at1, atf0, atf1, raz, uaz, saz, atz, ⟨_, o1⟩, ⟨_, o3⟩⟩ := hrel
          by_cases hlt : i < m
          · obtain ⟨p, hp⟩ : ∃ p, BL[i]? = some p := ⟨_, List.getElem?_eq_getElem (by rw [EB.out]; exact hlt)⟩
            obtain ⟨g, rfl, gz, gq, gr, gx⟩ := row_at fHand_len EB.out o1 hp
            have hh := HAT.out i hlt
            rw [show BL.getD i default = p by rw [List.getD_eq_getElem?_getD, hp]; rfl] at hh
            have hn1 : (atH BL (i + 1)).1 = p.a := by simp [atH, hp]
            have hn2 : (atH BL (i + 1)).2 = p.b := by simp [atH, hp]
            obtain ⟨pa, pb, pc, pd, pe, pf⟩ := p
            have p0 := gx 0 pa rfl
            have p1 := gx 1 pb rfl
            have p2 := gx 2 pc rfl
            have p3 := gx 3 pd rfl
            have p4 := gx 4 pe rfl
            have p5 := gx 5 pf rfl
            rw [Nat.add_zero] at p0
            clear gx hp
            dsimp only at hn1 hn2 hh
            simp only [Bool.and_eq_true, beq_iff_eq] at hh
            generalize hA : atH BL i = A at *
            obtain ⟨A1, A2⟩ := A
            dsimp only at *
            clear hA
            have HN1 := Lib.hid hn1; have HN2 := Lib.hid hn2; clear hn1 hn2
            obtain ⟨⟨⟨⟨⟨⟨⟨⟨c1, c2⟩, c3⟩, c4⟩, c5⟩, c6⟩, c7⟩, c8⟩, c9⟩ := hh
            obtain rfl := c7.symm; obtain rfl := c8.symm
            have C1 := Lib.hid (sub_con c1); have C2 := Lib.hid (add_con c2); have C3 := Lib.hid (add_con c3); have C4 := Lib.hid (is_con c4); have C5 := fun W => mul_con c5 W; rw [c6] at C5; replace C5 := Lib.hid C5; have C9 := Lib.hid (is_con c9)
            clear c1 c2 c3 c4 c5 c6 c9
            generalize addR (addR (subR pa pb A1 A2).1 (subR pa pb A1 A2).2 pc pd).1 (addR (subR pa pb A1 A2).1 (subR pa pb A1 A2).2 pc pd).2 pa pb = Z at *
            generalize addR (subR pa pb A1 A2).1 (subR pa pb A1 A2).2 pc pd = Y at *
            generalize subR pa pb A1 A2 = X at *
            obtain ⟨X1, X2⟩ := X; obtain ⟨Y1, Y2⟩ := Y; obtain ⟨Z1, Z2⟩ := Z; dsimp only at C1 C2 C3 C4 C5 C9
            have hi20 : i ≤ 20 := by omega
            go_upto_region 27 with fail
            refine (fun (h : ∀ V, V = _ → Code.wp _ _ _ _ V) => h _ rfl) ?_
            intro w23 hV23
            have f23 : Below wr.heap.size wr w23 := by rw [hV23]; (repeat (first | with_reducible exact Below.refl _ _ | with_reducible assumption | with_reducible refine balloc ?_ _ | with_reducible refine bdrew ?_ | with_reducible refine below_drewN ?_ _ | with_reducible refine bset ?_ ?_ _ | with_reducible exact Nat.le_refl _ | with_reducible refine bsize ?_ | (dsimp only; refine Nat.le_trans ?_ (Nat.le_add_right _ _)) | with_reducible refine Nat.le_trans ?_ (Nat.le_add_right _ _) | (with_reducible refine bstep ?_ (by assumption))))
            have q0 : w23.cell? ⟨wr.heap.size, 0, none⟩ = some (.int .i64 pa) := by rw [hV23]; first | (simp [go_sem]; done) | (simp [go_sem, *]; done)
            have q1 : w23.cell? ⟨wr.heap.size, 1, none⟩ = some (.int .i64 pb) := by rw [hV23]; first | (simp [go_sem]; done) | (simp [go_sem, *]; done)
            have q2 : w23.cell? ⟨wr.heap.size, 2, none⟩ = some (.int .i64 pc) := by rw [hV23]; first | (simp [go_sem]; done) | (simp [go_sem, *]; done)
            have q3 : w23.cell? ⟨wr.heap.size, 3, none⟩ = some (.int .i64 pd) := by rw [hV23]; first | (simp [go_sem]; done) | (simp [go_sem, *]; done)
            have q4 : w23.cell? ⟨wr.heap.size, 4, none⟩ = some (.int .i64 pa) := by rw [hV23]; first | (simp [go_sem]; done) | (simp [go_sem, *]; done)
            have q5 : w23.cell? ⟨wr.heap.size, 5, none⟩ = some (.int .i64 pb) := by rw [hV23]; first | (simp [go_sem]; done) | (simp [go_sem, *]; done)
            have qz : wr.heap.size < w23.heap.size := by rw [hV23]; first | (simp; done) | (simp; omega)
            replace ra0 := keepa f23 raz ra0
            replace ra1 := keepa f23 raz ra1
            replace ua0 := keepa f23 uaz ua0
            replace ua1 := keepa f23 uaz ua1
            replace sa0 := keepa f23 saz sa0
            replace sa1 := keepa f23 saz sa1
            replace at0 := keepa f23 atz at0
            replace at1 := keepa f23 atz at1
            replace p0 := keepa f23 gz p0
            replace p1 := keepa f23 gz p1
            replace p2 := keepa f23 gz p2
            replace p3 := keepa f23 gz p3
            replace p4 := keepa f23 gz p4
            replace p5 := keepa f23 gz p5
            replace atf0 := keepz f23 atz atf0
            replace atf1 := keepz f23 atz atf1
            replace raz := Nat.lt_of_lt_of_le raz f23.size
            replace uaz := Nat.lt_of_lt_of_le uaz f23.size
            replace saz := Nat.lt_of_lt_of_le saz f23.size
            replace atz := Nat.lt_of_lt_of_le atz f23.size
            replace gz := Nat.lt_of_lt_of_le gz f23.size
            replace o1 := ownsRow_below o1 f23
            replace o3 := ownsRow_below o3 f23
            have bq23 := bstep hbw f23
            clear hV23 f23 hbw
            clear p0 p1 p2 p3 p4 p5
            go_wp2_with fail; refine (C1.out _).mono ?_; rintro e w24 ⟨rfl, hb24⟩
            have f24 : Below w23.heap.size w23 w24 := bstep (show Below w23.heap.size w23 _ by (repeat (first | with_reducible exact Below.refl _ _ | with_reducible assumption | with_reducible refine balloc ?_ _ | with_reducible refine bdrew ?_ | with_reducible refine below_drewN ?_ _ | with_reducible refine bset ?_ ?_ _ | with_reducible exact Nat.le_refl _ | with_reducible refine bsize ?_ | (dsimp only; refine Nat.le_trans ?_ (Nat.le_add_right _ _)) | with_reducible refine Nat.le_trans ?_ (Nat.le_add_right _ _) | (with_reducible refine bstep ?_ (by assumption))))) hb24
            replace ra0 := keepa f24 raz ra0
            replace ra1 := keepa f24 raz ra1
            replace ua0 := keepa f24 uaz ua0
            replace ua1 := keepa f24 uaz ua1
            replace sa0 := keepa f24 saz sa0
            replace sa1 := keepa f24 saz sa1
            replace at0 := keepa f24 atz at0
            replace at1 := keepa f24 atz at1
            replace q0 := keepa f24 qz q0
            replace q1 := keepa f24 qz q1
            replace q2 := keepa f24 qz q2
            replace q3 := keepa f24 qz q3
            replace q4 := keepa f24 qz q4
            replace q5 := keepa f24 qz q5
            replace atf0 := keepz f24 atz atf0
            replace atf1 := keepz f24 atz atf1
            replace raz := Nat.lt_of_lt_of_le raz f24.size
            replace uaz := Nat.lt_of_lt_of_le uaz f24.size
            replace saz := Nat.lt_of_lt_of_le saz f24.size
            replace atz := Nat.lt_of_lt_of_le atz f24.size
            replace gz := Nat.lt_of_lt_of_le gz f24.size
            replace qz := Nat.lt_of_lt_of_le qz f24.size
            replace o1 := ownsRow_below o1 f24
            replace o3 := ownsRow_below o3 f24
            have bq24 := bstep bq23 f24
            clear hb24 f24 bq23
            go_wp2_with fail; refine (C2.out _).mono ?_; rintro e w25 ⟨rfl, hb25⟩
            have f25 : Below w24.heap.size w24 w25 := bstep (show Below w24.heap.size w24 _ by (repeat (first | with_reducible exact Below.refl _ _ | with_reducible assumption | with_reducible refine balloc ?_ _ | with_reducible refine bdrew ?_ | with_reducible refine below_drewN ?_ _ | with_reducible refine bset ?_ ?_ _ | with_reducible exact Nat.le_refl _ | with_reducible refine bsize ?_ | (dsimp only; refine Nat.le_trans ?_ (Nat.le_add_right _ _)) | with_reducible refine Nat.le_trans ?_ (Nat.le_add_right _ _) | (with_reducible refine bstep ?_ (by assumption))))) hb25
            have x0 : w25.cell? ⟨w24.heap.size, 0, none⟩ = some (.int .i64 X1) := (hb25.cell (p := ⟨w24.heap.size, 0, none⟩) (by first | (simp; done) | (simp; omega))).trans (by first | (simp [go_sem]; done) | (simp [go_sem, *]; done))
            have x1 : w25.cell? ⟨w24.heap.size, 1, none⟩ = some (.int .i64 X2) := (hb25.cell (p := ⟨w24.heap.size, 1, none⟩) (by first | (simp; done) | (simp; omega))).trans (by first | (simp [go_sem]; done) | (simp [go_sem, *]; done))
            have xz : w24.heap.size < w25.heap.size := Nat.lt_of_lt_of_le (by first | (simp; done) | (simp; omega)) hb25.size
            replace ra0 := keepa f25 raz ra0
            replace ra1 := keepa f25 raz ra1
            replace ua0 := keepa f25 uaz ua0
            replace ua1 := keepa f25 uaz ua1
            replace sa0 := keepa f25 saz sa0
            replace sa1 := keepa f25 saz sa1
            replace at0 := keepa f25 atz at0
            replace at1 := keepa f25 atz at1
            replace q0 := keepa f25 qz q0
            replace q1 := keepa f25 qz q1
            replace q2 := keepa f25 qz q2
            replace q3 := keepa f25 qz q3
            replace q4 := keepa f25 qz q4
            replace q5 := keepa f25 qz q5
            replace atf0 := keepz f25 atz atf0
            replace atf1 := keepz f25 atz atf1
            replace raz := Nat.lt_of_lt_of_le raz f25.size
            replace uaz := Nat.lt_of_lt_of_le uaz f25.size
            replace saz := Nat.lt_of_lt_of_le saz f25.size
            replace atz := Nat.lt_of_lt_of_le atz f25.size
            replace gz := Nat.lt_of_lt_of_le gz f25.size
            replace qz := Nat.lt_of_lt_of_le qz f25.size
            replace o1 := ownsRow_below o1 f25
            replace o3 := ownsRow_below o3 f25
            have bq25 := bstep bq24 f25
            clear hb25 f25 bq24
            go_wp2_with fail; refine (C3.out _).mono ?_; rintro e w26 ⟨rfl, hb26⟩
            have f26 : Below w25.heap.size w25 w26 := bstep (show Below w25.heap.size w25 _ by (repeat (first | with_reducible exact Below.refl _ _ | with_reducible assumption | with_reducible refine balloc ?_ _ | with_reducible refine bdrew ?_ | with_reducible refine below_drewN ?_ _ | with_reducible refine bset ?_ ?_ _ | with_reducible exact Nat.le_refl _ | with_reducible refine bsize ?_ | (dsimp only; refine Nat.le_trans ?_ (Nat.le_add_right _ _)) | with_reducible refine Nat.le_trans ?_ (Nat.le_add_right _ _) | (with_reducible refine bstep ?_ (by assumption))))) hb26
            have y0 : w26.cell? ⟨w25.heap.size, 0, none⟩ = some (.int .i64 Y1) := (hb26.cell (p := ⟨w25.heap.size, 0, none⟩) (by first | (simp; done) | (simp; omega))).trans (by first | (simp [go_sem]; done) | (simp [go_sem, *]; done))
            have y1 : w26.cell? ⟨w25.heap.size, 1, none⟩ = some (.int .i64 Y2) := (hb26.cell (p := ⟨w25.heap.size, 1, none⟩) (by first | (simp; done) | (simp; omega))).trans (by first | (simp [go_sem]; done) | (simp [go_sem, *]; done))
            have yz : w25.heap.size < w26.heap.size := Nat.lt_of_lt_of_le (by first | (simp; done) | (simp; omega)) hb26.size
            replace ra0 := keepa f26 raz ra0
            replace ra1 := keepa f26 raz ra1
            replace ua0 := keepa f26 uaz ua0
            replace ua1 := keepa f26 uaz ua1
            replace sa0 := keepa f26 saz sa0
            replace sa1 := keepa f26 saz sa1
            replace at0 := keepa f26 atz at0
            replace at1 := keepa f26 atz at1
            replace q0 := keepa f26 qz q0
            replace q1 := keepa f26 qz q1
            replace q2 := keepa f26 qz q2
            replace q3 := keepa f26 qz q3
            replace q4 := keepa f26 qz q4
            replace q5 := keepa f26 qz q5
            replace x0 := keepa f26 xz x0
            replace x1 := keepa f26 xz x1
            replace atf0 := keepz f26 atz atf0
            replace atf1 := keepz f26 atz atf1
            replace raz := Nat.lt_of_lt_of_le raz f26.size
            replace uaz := Nat.lt_of_lt_of_le uaz f26.size
            replace saz := Nat.lt_of_lt_of_le saz f26.size
            replace atz := Nat.lt_of_lt_of_le atz f26.size
            replace gz := Nat.lt_of_lt_of_le gz f26.size
            replace qz := Nat.lt_of_lt_of_le qz f26.size
            replace xz := Nat.lt_of_lt_of_le xz f26.size
            replace o1 := ownsRow_below o1 f26
            replace o3 := ownsRow_below o3 f26
            have bq26 := bstep bq25 f26
            clear hb26 f26 bq25
            clear y0 y1 yz
            go_wp2_with fail; refine (C5.out _).mono ?_; rintro e w27 ⟨rfl, hb27⟩
            have f27 : Below w26.heap.size w26 w27 := bstep (show Below w26.heap.size w26 _ by (repeat (first | with_reducible exact Below.refl _ _ | with_reducible assumption | with_reducible refine balloc ?_ _ | with_reducible refine bdrew ?_ | with_reducible refine below_drewN ?_ _ | with_reducible refine bset ?_ ?_ _ | with_reducible exact Nat.le_refl _ | with_reducible refine bsize ?_ | (dsimp only; refine Nat.le_trans ?_ (Nat.le_add_right _ _)) | with_reducible refine Nat.le_trans ?_ (Nat.le_add_right _ _) | (with_reducible refine bstep ?_ (by assumption))))) hb27
            have s0 : w27.cell? ⟨w26.heap.size, 0, none⟩ = some (.int .i64 Z1) := (hb27.cell (p := ⟨w26.heap.size, 0, none⟩) (by first | (simp; done) | (simp; omega))).trans (by first | (simp [go_sem]; done) | (simp [go_sem, *]; done))
            have s1 : w27.cell? ⟨w26.heap.size, 1, none⟩ = some (.int .i64 Z2) := (hb27.cell (p := ⟨w26.heap.size, 1, none⟩) (by first | (simp; done) | (simp; omega))).trans (by first | (simp [go_sem]; done) | (simp [go_sem, *]; done))
            have sz : w26.heap.size < w27.heap.size := Nat.lt_of_lt_of_le (by first | (simp; done) | (simp; omega)) hb27.size
            replace ra0 := keepa f27 raz ra0
            replace ra1 := keepa f27 raz ra1
            replace ua0 := keepa f27 uaz ua0
            replace ua1 := keepa f27 uaz ua1
            replace sa0 := keepa f27 saz sa0
            replace sa1 := keepa f27 saz sa1
            replace at0 := keepa f27 atz at0
            replace at1 := keepa f27 atz at1
            replace q0 := keepa f27 qz q0
            replace q1 := keepa f27 qz q1
            replace q2 := keepa f27 qz q2
            replace q3 := keepa f27 qz q3
            replace q4 := keepa f27 qz q4
            replace q5 := keepa f27 qz q5
            replace x0 := keepa f27 xz x0
            replace x1 := keepa f27 xz x1
            replace atf0 := keepz f27 atz atf0
            replace atf1 := keepz f27 atz atf1
            replace raz := Nat.lt_of_lt_of_le raz f27.size
            replace uaz := Nat.lt_of_lt_of_le uaz f27.size
            replace saz := Nat.lt_of_lt_of_le saz f27.size
            replace atz := Nat.lt_of_lt_of_le atz f27.size
            replace gz := Nat.lt_of_lt_of_le gz f27.size
            replace qz := Nat.lt_of_lt_of_le qz f27.size
            replace xz := Nat.lt_of_lt_of_le xz f27.size
            replace o1 := ownsRow_below o1 f27
            replace o3 := ownsRow_below o3 f27
            have bq27 := bstep bq26 f27
            clear hb27 f27 bq26
            go_wp2_with fail; refine (C4.out _).mono ?_; rintro e w28 ⟨rfl, hb28⟩
            have f28 : Below w27.heap.size w27 w28 := bstep (show Below w27.heap.size w27 _ by (repeat (first | with_reducible exact Below.refl _ _ | with_reducible assumption | with_reducible refine balloc ?_ _ | with_reducible refine bdrew ?_ | with_reducible refine below_drewN ?_ _ | with_reducible refine bset ?_ ?_ _ | with_reducible exact Nat.le_refl _ | with_reducible refine bsize ?_ | (dsimp only; refine Nat.le_trans ?_ (Nat.le_add_right _ _)) | with_reducible refine Nat.le_trans ?_ (Nat.le_add_right _ _) | (with_reducible refine bstep ?_ (by assumption))))) hb28
            have v0 : w28.cell? ⟨w27.heap.size, 0, none⟩ = some (.int .i64 pc) := (hb28.cell (p := ⟨w27.heap.size, 0, none⟩) (by first | (simp; done) | (simp; omega))).trans (by first | (simp [go_sem]; done) | (simp [go_sem, *]; done))
            have v1 : w28.cell? ⟨w27.heap.size, 1, none⟩ = some (.int .i64 pd) := (hb28.cell (p := ⟨w27.heap.size, 1, none⟩) (by first | (simp; done) | (simp; omega))).trans (by first | (simp [go_sem]; done) | (simp [go_sem, *]; done))
            have vz : w27.heap.size < w28.heap.size := Nat.lt_of_lt_of_le (by first | (simp; done) | (simp; omega)) hb28.size
            replace ra0 := keepa f28 raz ra0
            replace ra1 := keepa f28 raz ra1
            replace ua0 := keepa f28 uaz ua0
            replace ua1 := keepa f28 uaz ua1
            replace sa0 := keepa f28 saz sa0
            replace sa1 := keepa f28 saz sa1
            replace at0 := keepa f28 atz at0
            replace at1 := keepa f28 atz at1
            replace q0 := keepa f28 qz q0
            replace q1 := keepa f28 qz q1
            replace q2 := keepa f28 qz q2
            replace q3 := keepa f28 qz q3
            replace q4 := keepa f28 qz q4
            replace q5 := keepa f28 qz q5
            replace x0 := keepa f28 xz x0
            replace x1 := keepa f28 xz x1
            replace s0 := keepa f28 sz s0
            replace s1 := keepa f28 sz s1
            replace atf0 := keepz f28 atz atf0
            replace atf1 := keepz f28 atz atf1
            replace raz := Nat.lt_of_lt_of_le raz f28.size
            replace uaz := Nat.lt_of_lt_of_le uaz f28.size
            replace saz := Nat.lt_of_lt_of_le saz f28.size
            replace atz := Nat.lt_of_lt_of_le atz f28.size
            replace gz := Nat.lt_of_lt_of_le gz f28.size
            replace qz := Nat.lt_of_lt_of_le qz f28.size
            replace xz := Nat.lt_of_lt_of_le xz f28.size
            replace sz := Nat.lt_of_lt_of_le sz f28.size
            replace o1 := ownsRow_below o1 f28
            replace o3 := ownsRow_below o3 f28
            have bq28 := bstep bq27 f28
            clear hb28 f28 bq27
            go_wp2_with fail; refine (C9.out _).mono ?_; rintro e w29 ⟨rfl, hb29⟩
            have f29 : Below w28.heap.size w28 w29 := bstep (show Below w28.heap.size w28 _ by (repeat (first | with_reducible exact Below.refl _ _ | with_reducible assumption | with_reducible refine balloc ?_ _ | with_reducible refine bdrew ?_ | with_reducible refine below_drewN ?_ _ | with_reducible refine bset ?_ ?_ _ | with_reducible exact Nat.le_refl _ | with_reducible refine bsize ?_ | (dsimp only; refine Nat.le_trans ?_ (Nat.le_add_right _ _)) | with_reducible refine Nat.le_trans ?_ (Nat.le_add_right _ _) | (with_reducible refine bstep ?_ (by assumption))))) hb29
            replace ra0 := keepa f29 raz ra0
            replace ra1 := keepa f29 raz ra1
            replace ua0 := keepa f29 uaz ua0
            replace ua1 := keepa f29 uaz ua1
            replace sa0 := keepa f29 saz sa0
            replace sa1 := keepa f29 saz sa1
            replace at0 := keepa f29 atz at0
            replace at1 := keepa f29 atz at1
            replace q0 := keepa f29 qz q0
            replace q1 := keepa f29 qz q1
            replace q2 := keepa f29 qz q2
            replace q3 := keepa f29 qz q3
            replace q4 := keepa f29 qz q4
            replace q5 := keepa f29 qz q5
            replace x0 := keepa f29 xz x0
            replace x1 := keepa f29 xz x1
            replace s0 := keepa f29 sz s0
            replace s1 := keepa f29 sz s1
            replace v0 := keepa f29 vz v0
            replace v1 := keepa f29 vz v1
            replace atf0 := keepz f29 atz atf0
            replace atf1 := keepz f29 atz atf1
            replace raz := Nat.lt_of_lt_of_le raz f29.size
            replace uaz := Nat.lt_of_lt_of_le uaz f29.size
            replace saz := Nat.lt_of_lt_of_le saz f29.size
            replace atz := Nat.lt_of_lt_of_le atz f29.size
            replace gz := Nat.lt_of_lt_of_le gz f29.size
            replace qz := Nat.lt_of_lt_of_le qz f29.size
            replace xz := Nat.lt_of_lt_of_le xz f29.size
            replace sz := Nat.lt_of_lt_of_le sz f29.size
            replace vz := Nat.lt_of_lt_of_le vz f29.size
            replace o1 := ownsRow_below o1 f29
            replace o3 := ownsRow_below o3 f29
            have bq29 := bstep bq28 f29
            clear hb29 f29 bq28
            clear x0 x1 xz s0 s1 sz v0 v1 vz
            go_wp2
            go_roundw
            case rel => exact ⟨i + 1, by omega, by go_num, by first | ((repeat (first | with_reducible exact Below.refl _ _ | with_reducible assumption | with_reducible refine balloc ?_ _ | with_reducible refine bdrew ?_ | with_reducible refine below_drewN ?_ _ | with_reducible refine bset ?_ ?_ _ | with_reducible exact Nat.le_refl _ | with_reducible refine bsize ?_ | (dsimp only; refine Nat.le_trans ?_ (Nat.le_add_right _ _)) | with_reducible refine Nat.le_trans ?_ (Nat.le_add_right _ _) | (with_reducible refine bstep ?_ (by assumption)))); done) | exact (bset (bset (by (repeat (first | with_reducible exact Below.refl _ _ | with_reducible assumption | with_reducible refine balloc ?_ _ | with_reducible refine bdrew ?_ | with_reducible refine below_drewN ?_ _ | with_reducible refine bset ?_ ?_ _ | with_reducible exact Nat.le_refl _ | with_reducible refine bsize ?_ | (dsimp only; refine Nat.le_trans ?_ (Nat.le_add_right _ _)) | with_reducible refine Nat.le_trans ?_ (Nat.le_add_right _ _) | (with_reducible refine bstep ?_ (by assumption))))) llet _) llet _), by first | with_reducible assumption | (simp [go_sem, *]; done), by first | with_reducible assumption | (simp [go_sem, *]; done), by first | with_reducible assumption | (simp [go_sem, *]; done), by first | with_reducible assumption | (simp [go_sem, *]; done), by first | with_reducible assumption | (simp [go_sem, *]; done), by first | with_reducible assumption | (simp [go_sem, *]; done), by first | (rw [HN1.out]; simp [go_sem, *]; done) | (rw [HN1.out]; simp [go_sem]; done), by first | (rw [HN2.out]; simp [go_sem, *]; done) | (rw [HN2.out]; simp [go_sem]; done), by first | with_reducible assumption | (simp [go_sem, *]; done), by first | with_reducible assumption | (simp [go_sem, *]; done), by first | with_reducible assumption | (simp; omega), by first | with_reducible assumption | (simp; omega), by first | with_reducible assumption | (simp; omega), by first | with_reducible assumption | (simp; omega), ⟨_, own_set (own_set (o1) neto1 _) neto1 _⟩, ⟨_, own_set (own_set (o3) neto3 _) neto3 _⟩⟩
            case measure => first | (simp [intOf]; done) | (simp [intOf]; omega)
          · have him : m = i := by omega
            subst him
            have EA3 := EA2.out; have EF3 := EF.out; have HE := fun W => add_con EA.out W; rw [EA3] at HE; replace HE := Lib.hid HE; clear EA3
            generalize hA : atH BL m = A at *
            obtain ⟨A1, A2⟩ := A
            dsimp only at *
            simp only [Prod.mk.injEq] at EF3
            obtain ⟨rfl, rfl⟩ := EF3
            clear hA
            go_wp2_with fail; refine (HE.out _).mono ?_; rintro e w30 ⟨rfl, hb30⟩
            have f30 : Below wr.heap.size wr w30 := bstep (show Below wr.heap.size wr _ by (repeat (first | with_reducible exact Below.refl _ _ | with_reducible assumption | with_reducible refine balloc ?_ _ | with_reducible refine bdrew ?_ | with_reducible refine below_drewN ?_ _ | with_reducible refine bset ?_ ?_ _ | with_reducible exact Nat.le_refl _ | with_reducible refine bsize ?_ | (dsimp only; refine Nat.le_trans ?_ (Nat.le_add_right _ _)) | with_reducible refine Nat.le_trans ?_ (Nat.le_add_right _ _) | (with_reducible refine bstep ?_ (by assumption))))) hb30
            replace ra0 := keepa f30 raz ra0
            replace ra1 := keepa f30 raz ra1
            replace ua0 := keepa f30 uaz ua0
            replace ua1 := keepa f30 uaz ua1
            replace sa0 := keepa f30 saz sa0
            replace sa1 := keepa f30 saz sa1
            replace at0 := keepa f30 atz at0
            replace at1 := keepa f30 atz at1
            replace atf0 := keepz f30 atz atf0
            replace atf1 := keepz f30 atz atf1
            replace raz := Nat.lt_of_lt_of_le raz f30.size
            replace uaz := Nat.lt_of_lt_of_le uaz f30.size
            replace saz := Nat.lt_of_lt_of_le saz f30.size
            replace atz := Nat.lt_of_lt_of_le atz f30.size
            replace o1 := ownsRow_below o1 f30
            replace o3 := ownsRow_below o3 f30
            have bq30 := bstep hbw f30
            clear hb30 f30 hbw
            have neyraz : w3.heap.size ≠ w30.heap.size := by omega
            have enyraz : w30.heap.size ≠ w3.heap.size := by omega
            have neyuaz : w7.heap.size ≠ w30.heap.size := by omega
            have enyuaz : w30.heap.size ≠ w7.heap.size := by omega
            have neysaz : w13.heap.size ≠ w30.heap.size := by omega
            have enysaz : w30.heap.size ≠ w13.heap.size := by omega
            have neyatz : w21.heap.size ≠ w30.heap.size := by omega
            have enyatz : w30.heap.size ≠ w21.heap.size := by omega
            have neyo1 : Value.ownBlock (.slice a1 m k1) ≠ some (w30.heap.size) := fun e => by have := (o1.lt _ e).2; omega
            have neyo3 : Value.ownBlock (.slice a3 m k3) ≠ some (w30.heap.size) := fun e => by have := (o3.lt _ e).2; omega
            have lley : w.heap.size ≤ w30.heap.size := bq30.size
            go_upto_region 39 with fail
            refine (fun (h : ∀ V, V = _ → Code.wp _ _ _ _ V) => h _ rfl) ?_
            intro w31 hV31
            have f31 : Below w30.heap.size w30 w31 := by rw [hV31]; (repeat (first | with_reducible exact Below.refl _ _ | with_reducible assumption | with_reducible refine balloc ?_ _ | with_reducible refine bdrew ?_ | with_reducible refine below_drewN ?_ _ | with_reducible refine bset ?_ ?_ _ | with_reducible exact Nat.le_refl _ | with_reducible refine bsize ?_ | (dsimp only; refine Nat.le_trans ?_ (Nat.le_add_right _ _)) | with_reducible refine Nat.le_trans ?_ (Nat.le_add_right _ _) | (with_reducible refine bstep ?_ (by assumption))))
            have en0 : w31.cell? ⟨w30.heap.size, 0, none⟩ = some (.int .i64 rx) := by rw [hV31]; first | (simp [go_sem]; done) | (simp [go_sem, *]; done)
            have enf0 : w31.frozen? ⟨w30.heap.size, 0, none⟩ = false := by rw [hV31]; first | (simp [go_sem]; done) | (simp [go_sem, *]; done)
            have en1 : w31.cell? ⟨w30.heap.size, 1, none⟩ = some (.int .i64 ry) := by rw [hV31]; first | (simp [go_sem]; done) | (simp [go_sem, *]; done)
            have enf1 : w31.frozen? ⟨w30.heap.size, 1, none⟩ = false := by rw [hV31]; first | (simp [go_sem]; done) | (simp [go_sem, *]; done)
            have enz : w30.heap.size < w31.heap.size := by rw [hV31]; first | (simp; done) | (simp; omega)
            replace ra0 := keepa f31 raz ra0
            replace ra1 := keepa f31 raz ra1
            replace ua0 := keepa f31 uaz ua0
            replace ua1 := keepa f31 uaz ua1
            replace sa0 := keepa f31 saz sa0
            replace sa1 := keepa f31 saz sa1
            replace at0 := keepa f31 atz at0
            replace at1 := keepa f31 atz at1
            replace atf0 := keepz f31 atz atf0
            replace atf1 := keepz f31 atz atf1
            replace raz := Nat.lt_of_lt_of_le raz f31.size
            replace uaz := Nat.lt_of_lt_of_le uaz f31.size
            replace saz := Nat.lt_of_lt_of_le saz f31.size
            replace atz := Nat.lt_of_lt_of_le atz f31.size
            replace o1 := ownsRow_below o1 f31
            replace o3 := ownsRow_below o3 f31
            have bq31 := bstep bq30 f31
            clear hV31 f31 bq30
            clear ua0 ua1 uaz ra0 ra1 raz o1
            go_wp2
            go_loopw [374] (fun c wr => ∃ i : Nat, i ≤ m ∧ c = .int .i64 i ∧ Below w.heap.size w wr ∧ wr.cell? ⟨w13.heap.size, 0, none⟩ = some (.int .i64 sx) ∧ wr.cell? ⟨w13.heap.size, 1, none⟩ = some (.int .i64 sy) ∧ wr.cell? ⟨w21.heap.size, 0, none⟩ = some (.int .i64 (atH SL i).1) ∧ wr.cell? ⟨w21.heap.size, 1, none⟩ = some (.int .i64 (atH SL i).2) ∧ wr.cell? ⟨w30.heap.size, 0, none⟩ = some (.int .i64 rx) ∧ wr.cell? ⟨w30.heap.size, 1, none⟩ = some (.int .i64 ry) ∧ wr.frozen? ⟨w21.heap.size, 0, none⟩ = false ∧ wr.frozen? ⟨w21.heap.size, 1, none⟩ = false ∧ wr.frozen? ⟨w30.heap.size, 0, none⟩ = false ∧ wr.frozen? ⟨w30.heap.size, 1, none⟩ = false ∧ w13.heap.size < wr.heap.size ∧ w21.heap.size < wr.heap.size ∧ w30.heap.size < wr.heap.size ∧ (∃ bs, wr.ownsRow bs 58 6 (.slice a3 m k3) (m) (cellsG fHand SL))) (fun c _ => m - (intOf c).toNat)
            case atStart => exact ⟨0, Nat.zero_le _, rfl, by first | ((repeat (first | with_reducible exact Below.refl _ _ | with_reducible assumption | with_reducible refine balloc ?_ _ | with_reducible refine bdrew ?_ | with_reducible refine below_drewN ?_ _ | with_reducible refine bset ?_ ?_ _ | with_reducible exact Nat.le_refl _ | with_reducible refine bsize ?_ | (dsimp only; refine Nat.le_trans ?_ (Nat.le_add_right _ _)) | with_reducible refine Nat.le_trans ?_ (Nat.le_add_right _ _) | (with_reducible refine bstep ?_ (by assumption)))); done) | exact (bset (bset (by (repeat (first | with_reducible exact Below.refl _ _ | with_reducible assumption | with_reducible refine balloc ?_ _ | with_reducible refine bdrew ?_ | with_reducible refine below_drewN ?_ _ | with_reducible refine bset ?_ ?_ _ | with_reducible exact Nat.le_refl _ | with_reducible refine bsize ?_ | (dsimp only; refine Nat.le_trans ?_ (Nat.le_add_right _ _)) | with_reducible refine Nat.le_trans ?_ (Nat.le_add_right _ _) | (with_reducible refine bstep ?_ (by assumption))))) llet _) llet _), by first | with_reducible assumption | (simp [go_sem, *]; done), by first | with_reducible assumption | (simp [go_sem, *]; done), by first | (simp [go_sem, atH, *]; done) | (simp [go_sem, atH]; done), by first | (simp [go_sem, atH, *]; done) | (simp [go_sem, atH]; done), by first | with_reducible assumption | (simp [go_sem, *]; done), by first | with_reducible assumption | (simp [go_sem, *]; done), by first | with_reducible assumption | (simp [go_sem, *]; done), by first | with_reducible assumption | (simp [go_sem, *]; done), by first | with_reducible assumption | (simp [go_sem, *]; done), by first | with_reducible assumption | (simp [go_sem, *]; done), by first | with_reducible assumption | (simp; omega), by first | with_reducible assumption | (simp; omega), by first | with_reducible assumption | (simp; omega), ⟨_, own_set (own_set (o3) neto3 _) neto3 _⟩⟩
            case round =>
              clear bq31 sa0 sa1 at0 at1 en0 en1 atf0 atf1 enf0 enf1 saz atz enz o3
              obtain ⟨i, hit, rfl, hbw, sa0, sa1, at0, at1, en0, en1, atf0, atf1, enf0, enf1, saz, atz, enz, ⟨_, o3⟩⟩ := hrel
              by_cases hlt : i < m
              · obtain ⟨p, hp⟩ : ∃ p, SL[i]? = some p := ⟨_, List.getElem?_eq_getElem (by rw [ES.out]; exact hlt)⟩
                obtain ⟨g, rfl, gz, gq, gr, gx⟩ := row_at fHand_len ES.out o3 hp
                have hh := HST.out i hlt
                rw [show SL.getD i default = p by rw [List.getD_eq_getElem?_getD, hp]; rfl] at hh
                have hn1 : (atH SL (i + 1)).1 = p.a := by simp [atH, hp]
                have hn2 : (atH SL (i + 1)).2 = p.b := by simp [atH, hp]
                obtain ⟨pa, pb, pc, pd, pe, pf⟩ := p
                have p0 := gx 0 pa rfl
                have p1 := gx 1 pb rfl
                have p2 := gx 2 pc rfl
                have p3 := gx 3 pd rfl
                have p4 := gx 4 pe rfl
                have p5 := gx 5 pf rfl
                rw [Nat.add_zero] at p0
                clear gx hp
                dsimp only at hn1 hn2 hh
                simp only [Bool.and_eq_true, beq_iff_eq] at hh
                generalize hA : atH SL i = A at *
                obtain ⟨A1, A2⟩ := A
                dsimp only at *
                clear hA
                have HN1 := Lib.hid hn1; have HN2 := Lib.hid hn2; clear hn1 hn2
                obtain ⟨⟨⟨⟨c1, c2⟩, c4⟩, c7⟩, c9⟩ := hh
                obtain rfl := c7
                have C1 := Lib.hid (sub_con c1); have C2 := Lib.hid (add_con c2); have C4 := Lib.hid (is_con c4); have C9 := Lib.hid (is_con c9)
                clear c1 c2 c4 c9
                generalize addR (subR pa pb A1 A2).1 (subR pa pb A1 A2).2 pc pd = Y at *
                generalize subR pa pb A1 A2 = X at *
                obtain ⟨X1, X2⟩ := X; obtain ⟨Y1, Y2⟩ := Y; dsimp only at C1 C2 C4 C9
                have hi20 : i ≤ 20 := by omega
                go_upto_region 43 with fail
                refine (fun (h : ∀ V, V = _ → Code.wp _ _ _ _ V) => h _ rfl) ?_
                intro w32 hV32
                have f32 : Below wr.heap.size wr w32 := by rw [hV32]; (repeat (first | with_reducible exact Below.refl _ _ | with_reducible assumption | with_reducible refine balloc ?_ _ | with_reducible refine bdrew ?_ | with_reducible refine below_drewN ?_ _ | with_reducible refine bset ?_ ?_ _ | with_reducible exact Nat.le_refl _ | with_reducible refine bsize ?_ | (dsimp only; refine Nat.le_trans ?_ (Nat.le_add_right _ _)) | with_reducible refine Nat.le_trans ?_ (Nat.le_add_right _ _) | (with_reducible refine bstep ?_ (by assumption))))
                have q0 : w32.cell? ⟨wr.heap.size, 0, none⟩ = some (.int .i64 pa) := by rw [hV32]; first | (simp [go_sem]; done) | (simp [go_sem, *]; done)
                have q1 : w32.cell? ⟨wr.heap.size, 1, none⟩ = some (.int .i64 pb) := by rw [hV32]; first | (simp [go_sem]; done) | (simp [go_sem, *]; done)
                have q2 : w32.cell? ⟨wr.heap.size, 2, none⟩ = some (.int .i64 pc) := by rw [hV32]; first | (simp [go_sem]; done) | (simp [go_sem, *]; done)
                have q3 : w32.cell? ⟨wr.heap.size, 3, none⟩ = some (.int .i64 pd) := by rw [hV32]; first | (simp [go_sem]; done) | (simp [go_sem, *]; done)
                have q4 : w32.cell? ⟨wr.heap.size, 4, none⟩ = some (.int .i64 0) := by rw [hV32]; first | (simp [go_sem]; done) | (simp [go_sem, *]; done)
                have q5 : w32.cell? ⟨wr.heap.size, 5, none⟩ = some (.int .i64 pf) := by rw [hV32]; first | (simp [go_sem]; done) | (simp [go_sem, *]; done)
                have qz : wr.heap.size < w32.heap.size := by rw [hV32]; first | (simp; done) | (simp; omega)
                replace sa0 := keepa f32 saz sa0
                replace sa1 := keepa f32 saz sa1
                replace at0 := keepa f32 atz at0
                replace at1 := keepa f32 atz at1
                replace en0 := keepa f32 enz en0
                replace en1 := keepa f32 enz en1
                replace p0 := keepa f32 gz p0
                replace p1 := keepa f32 gz p1
                replace p2 := keepa f32 gz p2
                replace p3 := keepa f32 gz p3
                replace p4 := keepa f32 gz p4
                replace p5 := keepa f32 gz p5
                replace atf0 := keepz f32 atz atf0
                replace atf1 := keepz f32 atz atf1
                replace enf0 := keepz f32 enz enf0
                replace enf1 := keepz f32 enz enf1
                replace saz := Nat.lt_of_lt_of_le saz f32.size
                replace atz := Nat.lt_of_lt_of_le atz f32.size
                replace enz := Nat.lt_of_lt_of_le enz f32.size
                replace gz := Nat.lt_of_lt_of_le gz f32.size
                replace o3 := ownsRow_below o3 f32
                have bq32 := bstep hbw f32
                clear hV32 f32 hbw
                clear p0 p1 p2 p3 p4 p5
                go_wp2_with fail; refine (C1.out _).mono ?_; rintro e w33 ⟨rfl, hb33⟩
                have f33 : Below w32.heap.size w32 w33 := bstep (show Below w32.heap.size w32 _ by (repeat (first | with_reducible exact Below.refl _ _ | with_reducible assumption | with_reducible refine balloc ?_ _ | with_reducible refine bdrew ?_ | with_reducible refine below_drewN ?_ _ | with_reducible refine bset ?_ ?_ _ | with_reducible exact Nat.le_refl _ | with_reducible refine bsize ?_ | (dsimp only; refine Nat.le_trans ?_ (Nat.le_add_right _ _)) | with_reducible refine Nat.le_trans ?_ (Nat.le_add_right _ _) | (with_reducible refine bstep ?_ (by assumption))))) hb33
                replace sa0 := keepa f33 saz sa0
                replace sa1 := keepa f33 saz sa1
                replace at0 := keepa f33 atz at0
                replace at1 := keepa f33 atz at1
                replace en0 := keepa f33 enz en0
                replace en1 := keepa f33 enz en1
                replace q0 := keepa f33 qz q0
                replace q1 := keepa f33 qz q1
                replace q2 := keepa f33 qz q2
                replace q3 := keepa f33 qz q3
                replace q4 := keepa f33 qz q4
                replace q5 := keepa f33 qz q5
                replace atf0 := keepz f33 atz atf0
                replace atf1 := keepz f33 atz atf1
                replace enf0 := keepz f33 enz enf0
                replace enf1 := keepz f33 enz enf1
                replace saz := Nat.lt_of_lt_of_le saz f33.size
                replace atz := Nat.lt_of_lt_of_le atz f33.size
                replace enz := Nat.lt_of_lt_of_le enz f33.size
                replace gz := Nat.lt_of_lt_of_le gz f33.size
                replace qz := Nat.lt_of_lt_of_le qz f33.size
                replace o3 := ownsRow_below o3 f33
                have bq33 := bstep bq32 f33
                clear hb33 f33 bq32
                go_wp2_with fail; refine (C2.out _).mono ?_; rintro e w34 ⟨rfl, hb34⟩
                have f34 : Below w33.heap.size w33 w34 := bstep (show Below w33.heap.size w33 _ by (repeat (first | with_reducible exact Below.refl _ _ | with_reducible assumption | with_reducible refine balloc ?_ _ | with_reducible refine bdrew ?_ | with_reducible refine below_drewN ?_ _ | with_reducible refine bset ?_ ?_ _ | with_reducible exact Nat.le_refl _ | with_reducible refine bsize ?_ | (dsimp only; refine Nat.le_trans ?_ (Nat.le_add_right _ _)) | with_reducible refine Nat.le_trans ?_ (Nat.le_add_right _ _) | (with_reducible refine bstep ?_ (by assumption))))) hb34
                have x0 : w34.cell? ⟨w33.heap.size, 0, none⟩ = some (.int .i64 X1) := (hb34.cell (p := ⟨w33.heap.size, 0, none⟩) (by first | (simp; done) | (simp; omega))).trans (by first | (simp [go_sem]; done) | (simp [go_sem, *]; done))
                have x1 : w34.cell? ⟨w33.heap.size, 1, none⟩ = some (.int .i64 X2) := (hb34.cell (p := ⟨w33.heap.size, 1, none⟩) (by first | (simp; done) | (simp; omega))).trans (by first | (simp [go_sem]; done) | (simp [go_sem, *]; done))
                have xz : w33.heap.size < w34.heap.size := Nat.lt_of_lt_of_le (by first | (simp; done) | (simp; omega)) hb34.size
                replace sa0 := keepa f34 saz sa0
                replace sa1 := keepa f34 saz sa1
                replace at0 := keepa f34 atz at0
                replace at1 := keepa f34 atz at1
                replace en0 := keepa f34 enz en0
                replace en1 := keepa f34 enz en1
                replace q0 := keepa f34 qz q0
                replace q1 := keepa f34 qz q1
                replace q2 := keepa f34 qz q2
                replace q3 := keepa f34 qz q3
                replace q4 := keepa f34 qz q4
                replace q5 := keepa f34 qz q5
                replace atf0 := keepz f34 atz atf0
                replace atf1 := keepz f34 atz atf1
                replace enf0 := keepz f34 enz enf0
                replace enf1 := keepz f34 enz enf1
                replace saz := Nat.lt_of_lt_of_le saz f34.size
                replace atz := Nat.lt_of_lt_of_le atz f34.size
                replace enz := Nat.lt_of_lt_of_le enz f34.size
                replace gz := Nat.lt_of_lt_of_le gz f34.size
                replace qz := Nat.lt_of_lt_of_le qz f34.size
                replace o3 := ownsRow_below o3 f34
                have bq34 := bstep bq33 f34
                clear hb34 f34 bq33
                go_wp2_with fail; refine (C9.out _).mono ?_; rintro e w35 ⟨rfl, hb35⟩
                have f35 : Below w34.heap.size w34 w35 := bstep (show Below w34.heap.size w34 _ by (repeat (first | with_reducible exact Below.refl _ _ | with_reducible assumption | with_reducible refine balloc ?_ _ | with_reducible refine bdrew ?_ | with_reducible refine below_drewN ?_ _ | with_reducible refine bset ?_ ?_ _ | with_reducible exact Nat.le_refl _ | with_reducible refine bsize ?_ | (dsimp only; refine Nat.le_trans ?_ (Nat.le_add_right _ _)) | with_reducible refine Nat.le_trans ?_ (Nat.le_add_right _ _) | (with_reducible refine bstep ?_ (by assumption))))) hb35
                have y0 : w35.cell? ⟨w34.heap.size, 0, none⟩ = some (.int .i64 Y1) := (hb35.cell (p := ⟨w34.heap.size, 0, none⟩) (by first | (simp; done) | (simp; omega))).trans (by first | (simp [go_sem]; done) | (simp [go_sem, *]; done))
                have y1 : w35.cell? ⟨w34.heap.size, 1, none⟩ = some (.int .i64 Y2) := (hb35.cell (p := ⟨w34.heap.size, 1, none⟩) (by first | (simp; done) | (simp; omega))).trans (by first | (simp [go_sem]; done) | (simp [go_sem, *]; done))
                have yz : w34.heap.size < w35.heap.size := Nat.lt_of_lt_of_le (by first | (simp; done) | (simp; omega)) hb35.size
                replace sa0 := keepa f35 saz sa0
                replace sa1 := keepa f35 saz sa1
                replace at0 := keepa f35 atz at0
                replace at1 := keepa f35 atz at1
                replace en0 := keepa f35 enz en0
                replace en1 := keepa f35 enz en1
                replace q0 := keepa f35 qz q0
                replace q1 := keepa f35 qz q1
                replace q2 := keepa f35 qz q2
                replace q3 := keepa f35 qz q3
                replace q4 := keepa f35 qz q4
                replace q5 := keepa f35 qz q5
                replace x0 := keepa f35 xz x0
                replace x1 := keepa f35 xz x1
                replace atf0 := keepz f35 atz atf0
                replace atf1 := keepz f35 atz atf1
                replace enf0 := keepz f35 enz enf0
                replace enf1 := keepz f35 enz enf1
                replace saz := Nat.lt_of_lt_of_le saz f35.size
                replace atz := Nat.lt_of_lt_of_le atz f35.size
                replace enz := Nat.lt_of_lt_of_le enz f35.size
                replace gz := Nat.lt_of_lt_of_le gz f35.size
                replace qz := Nat.lt_of_lt_of_le qz f35.size
                replace xz := Nat.lt_of_lt_of_le xz f35.size
                replace o3 := ownsRow_below o3 f35
                have bq35 := bstep bq34 f35
                clear hb35 f35 bq34
                go_wp2_with fail; refine (C4.out _).mono ?_; rintro e w36 ⟨rfl, hb36⟩
                have f36 : Below w35.heap.size w35 w36 := bstep (show Below w35.heap.size w35 _ by (repeat (first | with_reducible exact Below.refl _ _ | with_reducible assumption | with_reducible refine balloc ?_ _ | with_reducible refine bdrew ?_ | with_reducible refine below_drewN ?_ _ | with_reducible refine bset ?_ ?_ _ | with_reducible exact Nat.le_refl _ | with_reducible refine bsize ?_ | (dsimp only; refine Nat.le_trans ?_ (Nat.le_add_right _ _)) | with_reducible refine Nat.le_trans ?_ (Nat.le_add_right _ _) | (with_reducible refine bstep ?_ (by assumption))))) hb36
                replace sa0 := keepa f36 saz sa0
                replace sa1 := keepa f36 saz sa1
                replace at0 := keepa f36 atz at0
                replace at1 := keepa f36 atz at1
                replace en0 := keepa f36 enz en0
                replace en1 := keepa f36 enz en1
                replace q0 := keepa f36 qz q0
                replace q1 := keepa f36 qz q1
                replace q2 := keepa f36 qz q2
                replace q3 := keepa f36 qz q3
                replace q4 := keepa f36 qz q4
                replace q5 := keepa f36 qz q5
                replace x0 := keepa f36 xz x0
                replace x1 := keepa f36 xz x1
                replace y0 := keepa f36 yz y0
                replace y1 := keepa f36 yz y1
                replace atf0 := keepz f36 atz atf0
                replace atf1 := keepz f36 atz atf1
                replace enf0 := keepz f36 enz enf0
                replace enf1 := keepz f36 enz enf1
                replace saz := Nat.lt_of_lt_of_le saz f36.size
                replace atz := Nat.lt_of_lt_of_le atz f36.size
                replace enz := Nat.lt_of_lt_of_le enz f36.size
                replace gz := Nat.lt_of_lt_of_le gz f36.size
                replace qz := Nat.lt_of_lt_of_le qz f36.size
                replace xz := Nat.lt_of_lt_of_le xz f36.size
                replace yz := Nat.lt_of_lt_of_le yz f36.size
                replace o3 := ownsRow_below o3 f36
                have bq36 := bstep bq35 f36
                clear hb36 f36 bq35
                clear x0 x1 xz y0 y1 yz
                go_wp2
                go_roundw
                case rel => exact ⟨i + 1, by omega, by go_num, by first | ((repeat (first | with_reducible exact Below.refl _ _ | with_reducible assumption | with_reducible refine balloc ?_ _ | with_reducible refine bdrew ?_ | with_reducible refine below_drewN ?_ _ | with_reducible refine bset ?_ ?_ _ | with_reducible exact Nat.le_refl _ | with_reducible refine bsize ?_ | (dsimp only; refine Nat.le_trans ?_ (Nat.le_add_right _ _)) | with_reducible refine Nat.le_trans ?_ (Nat.le_add_right _ _) | (with_reducible refine bstep ?_ (by assumption)))); done) | exact (bset (bset (by (repeat (first | with_reducible exact Below.refl _ _ | with_reducible assumption | with_reducible refine balloc ?_ _ | with_reducible refine bdrew ?_ | with_reducible refine below_drewN ?_ _ | with_reducible refine bset ?_ ?_ _ | with_reducible exact Nat.le_refl _ | with_reducible refine bsize ?_ | (dsimp only; refine Nat.le_trans ?_ (Nat.le_add_right _ _)) | with_reducible refine Nat.le_trans ?_ (Nat.le_add_right _ _) | (with_reducible refine bstep ?_ (by assumption))))) llet _) llet _), by first | with_reducible assumption | (simp [go_sem, *]; done), by first | with_reducible assumption | (simp [go_sem, *]; done), by first | (rw [HN1.out]; simp [go_sem, *]; done) | (rw [HN1.out]; simp [go_sem]; done), by first | (rw [HN2.out]; simp [go_sem, *]; done) | (rw [HN2.out]; simp [go_sem]; done), by first | with_reducible assumption | (simp [go_sem, *]; done), by first | with_reducible assumption | (simp [go_sem, *]; done), by first | with_reducible assumption | (simp [go_sem, *]; done), by first | with_reducible assumption | (simp [go_sem, *]; done), by first | with_reducible assumption | (simp [go_sem, *]; done), by first | with_reducible assumption | (simp [go_sem, *]; done), by first | with_reducible assumption | (simp; omega), by first | with_reducible assumption | (simp; omega), by first | with_reducible assumption | (simp; omega), ⟨_, own_set (own_set (o3) neto3 _) neto3 _⟩⟩
                case measure => first | (simp [intOf]; done) | (simp [intOf]; omega)
              · have him : m = i := by omega
                subst him
                have EA3 := EZ2.out; have HE := fun W => add_con EZ.out W; rw [EA3] at HE; replace HE := Lib.hid HE; clear EA3
                generalize hA : atH SL m = A at *
                obtain ⟨A1, A2⟩ := A
                dsimp only at *
                clear hA
                go_wp2_with fail; refine (HE.out _).mono ?_; rintro e w37 ⟨rfl, hb37⟩
                have f37 : Below wr.heap.size wr w37 := bstep (show Below wr.heap.size wr _ by (repeat (first | with_reducible exact Below.refl _ _ | with_reducible assumption | with_reducible refine balloc ?_ _ | with_reducible refine bdrew ?_ | with_reducible refine below_drewN ?_ _ | with_reducible refine bset ?_ ?_ _ | with_reducible exact Nat.le_refl _ | with_reducible refine bsize ?_ | (dsimp only; refine Nat.le_trans ?_ (Nat.le_add_right _ _)) | with_reducible refine Nat.le_trans ?_ (Nat.le_add_right _ _) | (with_reducible refine bstep ?_ (by assumption))))) hb37
                replace sa0 := keepa f37 saz sa0
                replace sa1 := keepa f37 saz sa1
                replace at0 := keepa f37 atz at0
                replace at1 := keepa f37 atz at1
                replace en0 := keepa f37 enz en0
                replace en1 := keepa f37 enz en1
                replace atf0 := keepz f37 atz atf0
                replace atf1 := keepz f37 atz atf1
                replace enf0 := keepz f37 enz enf0
                replace enf1 := keepz f37 enz enf1
                replace saz := Nat.lt_of_lt_of_le saz f37.size
                replace atz := Nat.lt_of_lt_of_le atz f37.size
                replace enz := Nat.lt_of_lt_of_le enz f37.size
                replace o3 := ownsRow_below o3 f37
                have bq37 := bstep hbw f37
                clear hb37 f37 hbw
                go_wp2
                go_ret
                exact ⟨rfl, bstep hbd (show Below w.heap.size w _ by first | ((repeat (first | with_reducible exact Below.refl _ _ | with_reducible assumption | with_reducible refine balloc ?_ _ | with_reducible refine bdrew ?_ | with_reducible refine below_drewN ?_ _ | with_reducible refine bset ?_ ?_ _ | with_reducible exact Nat.le_refl _ | with_reducible refine bsize ?_ | (dsimp only; refine Nat.le_trans ?_ (Nat.le_add_right _ _)) | with_reducible refine Nat.le_trans ?_ (Nat.le_add_right _ _) | (with_reducible refine bstep ?_ (by assumption)))); done) | exact bset (bset (by (repeat (first | with_reducible exact Below.refl _ _ | with_reducible assumption | with_reducible refine balloc ?_ _ | with_reducible refine bdrew ?_ | with_reducible refine below_drewN ?_ _ | with_reducible refine bset ?_ ?_ _ | with_reducible exact Nat.le_refl _ | with_reducible refine bsize ?_ | (dsimp only; refine Nat.le_trans ?_ (Nat.le_add_right _ _)) | with_reducible refine Nat.le_trans ?_ (Nat.le_add_right _ _) | (with_reducible refine bstep ?_ (by assumption))))) lley _) lley _)⟩
  · go_wp2
    go_ret
    exact ⟨rfl, by (repeat (first | with_reducible exact Below.refl _ _ | with_reducible assumption | with_reducible refine balloc ?_ _ | with_reducible refine bdrew ?_ | with_reducible refine below_drewN ?_ _ | with_reducible refine bset ?_ ?_ _ | with_reducible exact Nat.le_refl _ | with_reducible refine bsize ?_ | (dsimp only; refine Nat.le_trans ?_ (Nat.le_add_right _ _)) | with_reducible refine Nat.le_trans ?_ (Nat.le_add_right _ _) | (with_reducible refine bstep ?_ (by assumption))))⟩
end Go.Proofs.Ytgpbkjakmbmccaa
