/- The walk of the law FnHelpersTurnOfAll where there are not so many vehicles. -/
import Derived.Test.YthebhljhlpfknaaHtT
import Derived.Test.YthebhljhlpfknaaXe
import Derived.Test.YthebhljhlpfknaaLawBase
import Derived.Test.YthebhljhlpfknaaCamM
namespace Go.Proofs.Ythebhljhlpfknaa
open Go.ChangeShapes Go.WideShapes Go.ChangeAt Go.RowKit Go.Joins
set_option maxRecDepth 100000
set_option linter.unusedVariables false
set_option linter.unusedSimpArgs false

set_option maxHeartbeats 6400000 in
theorem ht_no (n : Int) (bn : -9223372036854775808 ≤ n ∧ n ≤ 9223372036854775807) (hn : inB n 1 20 = false) (w : World) :
    Calls Try.prog 5 #[.int .i64 n] w fun e w' => e = .returned (.bool true) ∧ Below w.heap.size w w' := by
  have HBackReachi := fun W => BackReach_impl n bn W
  simp only [shX, shY, reX, reY, hn, Bool.false_eq_true, if_false] at HBackReachi
  have HReturnReachi := fun W => ReturnReach_impl n bn W
  simp only [shX, shY, reX, reY, hn, Bool.false_eq_true, if_false] at HReturnReachi
  have HLastFulli := fun W => LastFull_impl n bn W
  simp only [shX, shY, reX, reY, hn, Bool.false_eq_true, if_false] at HLastFulli
  have HDrivenByAlli := fun W => DrivenByAll_impl n bn W
  simp only [shX, shY, reX, reY, hn, Bool.false_eq_true, if_false] at HDrivenByAlli
  have HStayReachi := fun W => StayReach_impl n  W
  simp only [shX, shY, reX, reY, hn, Bool.false_eq_true, if_false] at HStayReachi
  have HBackStopsi := fun W => backStops_impl n bn W
  simp only [hn, bkL_no n hn] at HBackStopsi
  have HStayStopsi := fun W => stayStops_impl n bn W
  simp only [hn, hsL_no n hn] at HStayStopsi
  have HBackReachs := fun W => BackReach_spec n  W
  simp only [shX, shY, reX, reY, hn, Bool.false_eq_true, if_false] at HBackReachs
  have HReturnReachs := fun W => ReturnReach_spec n  W
  simp only [shX, shY, reX, reY, hn, Bool.false_eq_true, if_false] at HReturnReachs
  have HLastFulls := fun W => LastFull_spec n  W
  simp only [shX, shY, reX, reY, hn, Bool.false_eq_true, if_false] at HLastFulls
  have HDrivenByAlls := fun W => DrivenByAll_spec n  W
  simp only [shX, shY, reX, reY, hn, Bool.false_eq_true, if_false] at HDrivenByAlls
  have HStayReachs := fun W => StayReach_spec n  W
  simp only [shX, shY, reX, reY, hn, Bool.false_eq_true, if_false] at HStayReachs
  have HBackStopss := fun W => backStops_spec n bn W
  simp only [hn, bkL_no n hn] at HBackStopss
  have HStayStopss := fun W => stayStops_spec n bn W
  simp only [hn, hsL_no n hn] at HStayStopss
  replace HBackReachi := Lib.hid HBackReachi
  replace HReturnReachi := Lib.hid HReturnReachi
  replace HLastFulli := Lib.hid HLastFulli
  replace HDrivenByAlli := Lib.hid HDrivenByAlli
  replace HStayReachi := Lib.hid HStayReachi
  replace HBackStopsi := Lib.hid HBackStopsi
  replace HStayStopsi := Lib.hid HStayStopsi
  replace HBackReachs := Lib.hid HBackReachs
  replace HReturnReachs := Lib.hid HReturnReachs
  replace HLastFulls := Lib.hid HLastFulls
  replace HDrivenByAlls := Lib.hid HDrivenByAlls
  replace HStayReachs := Lib.hid HStayReachs
  replace HBackStopss := Lib.hid HBackStopss
  replace HStayStopss := Lib.hid HStayStopss
  clear hn
  go_enter Try.func5, Try.ntmps5
  have bq0 : Below w.heap.size w w := Below.refl _ _
  go_wp2_with fail; refine (HBackStopsi.out _).mono ?_; rintro e w1 ⟨v1, rfl, o1, hb1⟩
  have f1 : Below w.heap.size w w1 := bstep (show Below w.heap.size w _ by (repeat (first | with_reducible exact Below.refl _ _ | with_reducible assumption | with_reducible refine balloc ?_ _ | with_reducible refine bdrew ?_ | with_reducible refine below_drewN ?_ _ | with_reducible refine bset ?_ ?_ _ | with_reducible exact Nat.le_refl _ | with_reducible refine bsize ?_ | (dsimp only; refine Nat.le_trans ?_ (Nat.le_add_right _ _)) | with_reducible refine Nat.le_trans ?_ (Nat.le_add_right _ _) | (with_reducible refine bstep ?_ (by assumption))))) hb1
  have bq1 := bstep bq0 f1
  clear hb1 f1 bq0
  go_wp2_with fail; refine (HBackStopss.out _).mono ?_; rintro e w2 ⟨v2, rfl, o2, hb2⟩
  have f2 : Below w1.heap.size w1 w2 := bstep (show Below w1.heap.size w1 _ by (repeat (first | with_reducible exact Below.refl _ _ | with_reducible assumption | with_reducible refine balloc ?_ _ | with_reducible refine bdrew ?_ | with_reducible refine below_drewN ?_ _ | with_reducible refine bset ?_ ?_ _ | with_reducible exact Nat.le_refl _ | with_reducible refine bsize ?_ | (dsimp only; refine Nat.le_trans ?_ (Nat.le_add_right _ _)) | with_reducible refine Nat.le_trans ?_ (Nat.le_add_right _ _) | (with_reducible refine bstep ?_ (by assumption))))) hb2
  replace o1 := ownsRow_below o1 f2
  have bq2 := bstep bq1 f2
  clear hb2 f2 bq1
  go_wp2_with fail; refine (HBackReachi.out _).mono ?_; rintro e w3 ⟨rfl, hb3⟩
  have f3 : Below w2.heap.size w2 w3 := bstep (show Below w2.heap.size w2 _ by (repeat (first | with_reducible exact Below.refl _ _ | with_reducible assumption | with_reducible refine balloc ?_ _ | with_reducible refine bdrew ?_ | with_reducible refine below_drewN ?_ _ | with_reducible refine bset ?_ ?_ _ | with_reducible exact Nat.le_refl _ | with_reducible refine bsize ?_ | (dsimp only; refine Nat.le_trans ?_ (Nat.le_add_right _ _)) | with_reducible refine Nat.le_trans ?_ (Nat.le_add_right _ _) | (with_reducible refine bstep ?_ (by assumption))))) hb3
  replace o1 := ownsRow_below o1 f3
  replace o2 := ownsRow_below o2 f3
  have bq3 := bstep bq2 f3
  clear hb3 f3 bq2
  go_wp2_with fail; refine (HBackReachs.out _).mono ?_; rintro e w4 ⟨rfl, hb4⟩
  have f4 : Below w3.heap.size w3 w4 := bstep (show Below w3.heap.size w3 _ by (repeat (first | with_reducible exact Below.refl _ _ | with_reducible assumption | with_reducible refine balloc ?_ _ | with_reducible refine bdrew ?_ | with_reducible refine below_drewN ?_ _ | with_reducible refine bset ?_ ?_ _ | with_reducible exact Nat.le_refl _ | with_reducible refine bsize ?_ | (dsimp only; refine Nat.le_trans ?_ (Nat.le_add_right _ _)) | with_reducible refine Nat.le_trans ?_ (Nat.le_add_right _ _) | (with_reducible refine bstep ?_ (by assumption))))) hb4
  have ra0 : w4.cell? ⟨w3.heap.size, 0, none⟩ = some (.int .i64 0) := (hb4.cell (p := ⟨w3.heap.size, 0, none⟩) (by first | (simp; done) | (simp; omega))).trans (by first | (simp [go_sem]; done) | (simp [go_sem, *]; done))
  have ra1 : w4.cell? ⟨w3.heap.size, 1, none⟩ = some (.int .i64 0) := (hb4.cell (p := ⟨w3.heap.size, 1, none⟩) (by first | (simp; done) | (simp; omega))).trans (by first | (simp [go_sem]; done) | (simp [go_sem, *]; done))
  have raz : w3.heap.size < w4.heap.size := Nat.lt_of_lt_of_le (by first | (simp; done) | (simp; omega)) hb4.size
  replace o1 := ownsRow_below o1 f4
  replace o2 := ownsRow_below o2 f4
  have bq4 := bstep bq3 f4
  clear hb4 f4 bq3
  go_wp2_with fail; refine (HReturnReachi.out _).mono ?_; rintro e w5 ⟨rfl, hb5⟩
  have f5 : Below w4.heap.size w4 w5 := bstep (show Below w4.heap.size w4 _ by (repeat (first | with_reducible exact Below.refl _ _ | with_reducible assumption | with_reducible refine balloc ?_ _ | with_reducible refine bdrew ?_ | with_reducible refine below_drewN ?_ _ | with_reducible refine bset ?_ ?_ _ | with_reducible exact Nat.le_refl _ | with_reducible refine bsize ?_ | (dsimp only; refine Nat.le_trans ?_ (Nat.le_add_right _ _)) | with_reducible refine Nat.le_trans ?_ (Nat.le_add_right _ _) | (with_reducible refine bstep ?_ (by assumption))))) hb5
  have rb0 : w5.cell? ⟨w4.heap.size, 0, none⟩ = some (.int .i64 0) := (hb5.cell (p := ⟨w4.heap.size, 0, none⟩) (by first | (simp; done) | (simp; omega))).trans (by first | (simp [go_sem]; done) | (simp [go_sem, *]; done))
  have rb1 : w5.cell? ⟨w4.heap.size, 1, none⟩ = some (.int .i64 0) := (hb5.cell (p := ⟨w4.heap.size, 1, none⟩) (by first | (simp; done) | (simp; omega))).trans (by first | (simp [go_sem]; done) | (simp [go_sem, *]; done))
  have rbz : w4.heap.size < w5.heap.size := Nat.lt_of_lt_of_le (by first | (simp; done) | (simp; omega)) hb5.size
  replace ra0 := keepa f5 raz ra0
  replace ra1 := keepa f5 raz ra1
  replace raz := Nat.lt_of_lt_of_le raz f5.size
  replace o1 := ownsRow_below o1 f5
  replace o2 := ownsRow_below o2 f5
  have bq5 := bstep bq4 f5
  clear hb5 f5 bq4
  go_wp2_with fail; refine (HReturnReachs.out _).mono ?_; rintro e w6 ⟨rfl, hb6⟩
  have f6 : Below w5.heap.size w5 w6 := bstep (show Below w5.heap.size w5 _ by (repeat (first | with_reducible exact Below.refl _ _ | with_reducible assumption | with_reducible refine balloc ?_ _ | with_reducible refine bdrew ?_ | with_reducible refine below_drewN ?_ _ | with_reducible refine bset ?_ ?_ _ | with_reducible exact Nat.le_refl _ | with_reducible refine bsize ?_ | (dsimp only; refine Nat.le_trans ?_ (Nat.le_add_right _ _)) | with_reducible refine Nat.le_trans ?_ (Nat.le_add_right _ _) | (with_reducible refine bstep ?_ (by assumption))))) hb6
  have ha0 : w6.cell? ⟨w5.heap.size, 0, none⟩ = some (.int .i64 0) := (hb6.cell (p := ⟨w5.heap.size, 0, none⟩) (by first | (simp; done) | (simp; omega))).trans (by first | (simp [go_sem]; done) | (simp [go_sem, *]; done))
  have ha1 : w6.cell? ⟨w5.heap.size, 1, none⟩ = some (.int .i64 0) := (hb6.cell (p := ⟨w5.heap.size, 1, none⟩) (by first | (simp; done) | (simp; omega))).trans (by first | (simp [go_sem]; done) | (simp [go_sem, *]; done))
  have haz : w5.heap.size < w6.heap.size := Nat.lt_of_lt_of_le (by first | (simp; done) | (simp; omega)) hb6.size
  replace ra0 := keepa f6 raz ra0
  replace ra1 := keepa f6 raz ra1
  replace rb0 := keepa f6 rbz rb0
  replace rb1 := keepa f6 rbz rb1
  replace raz := Nat.lt_of_lt_of_le raz f6.size
  replace rbz := Nat.lt_of_lt_of_le rbz f6.size
  replace o1 := ownsRow_below o1 f6
  replace o2 := ownsRow_below o2 f6
  have bq6 := bstep bq5 f6
  clear hb6 f6 bq5
  go_wp2_with fail; refine (HLastFulli.out _).mono ?_; rintro e w7 ⟨rfl, hb7⟩
  have f7 : Below w6.heap.size w6 w7 := bstep (show Below w6.heap.size w6 _ by (repeat (first | with_reducible exact Below.refl _ _ | with_reducible assumption | with_reducible refine balloc ?_ _ | with_reducible refine bdrew ?_ | with_reducible refine below_drewN ?_ _ | with_reducible refine bset ?_ ?_ _ | with_reducible exact Nat.le_refl _ | with_reducible refine bsize ?_ | (dsimp only; refine Nat.le_trans ?_ (Nat.le_add_right _ _)) | with_reducible refine Nat.le_trans ?_ (Nat.le_add_right _ _) | (with_reducible refine bstep ?_ (by assumption))))) hb7
  have hb0 : w7.cell? ⟨w6.heap.size, 0, none⟩ = some (.int .i64 0) := (hb7.cell (p := ⟨w6.heap.size, 0, none⟩) (by first | (simp; done) | (simp; omega))).trans (by first | (simp [go_sem]; done) | (simp [go_sem, *]; done))
  have hb1 : w7.cell? ⟨w6.heap.size, 1, none⟩ = some (.int .i64 0) := (hb7.cell (p := ⟨w6.heap.size, 1, none⟩) (by first | (simp; done) | (simp; omega))).trans (by first | (simp [go_sem]; done) | (simp [go_sem, *]; done))
  have hbz : w6.heap.size < w7.heap.size := Nat.lt_of_lt_of_le (by first | (simp; done) | (simp; omega)) hb7.size
  replace ra0 := keepa f7 raz ra0
  replace ra1 := keepa f7 raz ra1
  replace rb0 := keepa f7 rbz rb0
  replace rb1 := keepa f7 rbz rb1
  replace ha0 := keepa f7 haz ha0
  replace ha1 := keepa f7 haz ha1
  replace raz := Nat.lt_of_lt_of_le raz f7.size
  replace rbz := Nat.lt_of_lt_of_le rbz f7.size
  replace haz := Nat.lt_of_lt_of_le haz f7.size
  replace o1 := ownsRow_below o1 f7
  replace o2 := ownsRow_below o2 f7
  have bq7 := bstep bq6 f7
  clear hb7 f7 bq6
  go_wp2_with fail; refine (HLastFulls.out _).mono ?_; rintro e w8 ⟨rfl, hb8⟩
  have f8 : Below w7.heap.size w7 w8 := bstep (show Below w7.heap.size w7 _ by (repeat (first | with_reducible exact Below.refl _ _ | with_reducible assumption | with_reducible refine balloc ?_ _ | with_reducible refine bdrew ?_ | with_reducible refine below_drewN ?_ _ | with_reducible refine bset ?_ ?_ _ | with_reducible exact Nat.le_refl _ | with_reducible refine bsize ?_ | (dsimp only; refine Nat.le_trans ?_ (Nat.le_add_right _ _)) | with_reducible refine Nat.le_trans ?_ (Nat.le_add_right _ _) | (with_reducible refine bstep ?_ (by assumption))))) hb8
  have ua0 : w8.cell? ⟨w7.heap.size, 0, none⟩ = some (.int .i64 0) := (hb8.cell (p := ⟨w7.heap.size, 0, none⟩) (by first | (simp; done) | (simp; omega))).trans (by first | (simp [go_sem]; done) | (simp [go_sem, *]; done))
  have ua1 : w8.cell? ⟨w7.heap.size, 1, none⟩ = some (.int .i64 0) := (hb8.cell (p := ⟨w7.heap.size, 1, none⟩) (by first | (simp; done) | (simp; omega))).trans (by first | (simp [go_sem]; done) | (simp [go_sem, *]; done))
  have uaz : w7.heap.size < w8.heap.size := Nat.lt_of_lt_of_le (by first | (simp; done) | (simp; omega)) hb8.size
  replace ra0 := keepa f8 raz ra0
  replace ra1 := keepa f8 raz ra1
  replace rb0 := keepa f8 rbz rb0
  replace rb1 := keepa f8 rbz rb1
  replace ha0 := keepa f8 haz ha0
  replace ha1 := keepa f8 haz ha1
  replace hb0 := keepa f8 hbz hb0
  replace hb1 := keepa f8 hbz hb1
  replace raz := Nat.lt_of_lt_of_le raz f8.size
  replace rbz := Nat.lt_of_lt_of_le rbz f8.size
  replace haz := Nat.lt_of_lt_of_le haz f8.size
  replace hbz := Nat.lt_of_lt_of_le hbz f8.size
  replace o1 := ownsRow_below o1 f8
  replace o2 := ownsRow_below o2 f8
  have bq8 := bstep bq7 f8
  clear hb8 f8 bq7
  go_wp2_with fail; refine (HDrivenByAlli.out _).mono ?_; rintro e w9 ⟨rfl, hb9⟩
  have f9 : Below w8.heap.size w8 w9 := bstep (show Below w8.heap.size w8 _ by (repeat (first | with_reducible exact Below.refl _ _ | with_reducible assumption | with_reducible refine balloc ?_ _ | with_reducible refine bdrew ?_ | with_reducible refine below_drewN ?_ _ | with_reducible refine bset ?_ ?_ _ | with_reducible exact Nat.le_refl _ | with_reducible refine bsize ?_ | (dsimp only; refine Nat.le_trans ?_ (Nat.le_add_right _ _)) | with_reducible refine Nat.le_trans ?_ (Nat.le_add_right _ _) | (with_reducible refine bstep ?_ (by assumption))))) hb9
  have ub0 : w9.cell? ⟨w8.heap.size, 0, none⟩ = some (.int .i64 0) := (hb9.cell (p := ⟨w8.heap.size, 0, none⟩) (by first | (simp; done) | (simp; omega))).trans (by first | (simp [go_sem]; done) | (simp [go_sem, *]; done))
  have ub1 : w9.cell? ⟨w8.heap.size, 1, none⟩ = some (.int .i64 0) := (hb9.cell (p := ⟨w8.heap.size, 1, none⟩) (by first | (simp; done) | (simp; omega))).trans (by first | (simp [go_sem]; done) | (simp [go_sem, *]; done))
  have ubz : w8.heap.size < w9.heap.size := Nat.lt_of_lt_of_le (by first | (simp; done) | (simp; omega)) hb9.size
  replace ra0 := keepa f9 raz ra0
  replace ra1 := keepa f9 raz ra1
  replace rb0 := keepa f9 rbz rb0
  replace rb1 := keepa f9 rbz rb1
  replace ha0 := keepa f9 haz ha0
  replace ha1 := keepa f9 haz ha1
  replace hb0 := keepa f9 hbz hb0
  replace hb1 := keepa f9 hbz hb1
  replace ua0 := keepa f9 uaz ua0
  replace ua1 := keepa f9 uaz ua1
  replace raz := Nat.lt_of_lt_of_le raz f9.size
  replace rbz := Nat.lt_of_lt_of_le rbz f9.size
  replace haz := Nat.lt_of_lt_of_le haz f9.size
  replace hbz := Nat.lt_of_lt_of_le hbz f9.size
  replace uaz := Nat.lt_of_lt_of_le uaz f9.size
  replace o1 := ownsRow_below o1 f9
  replace o2 := ownsRow_below o2 f9
  have bq9 := bstep bq8 f9
  clear hb9 f9 bq8
  go_wp2_with fail; refine (HDrivenByAlls.out _).mono ?_; rintro e w10 ⟨rfl, hb10⟩
  have f10 : Below w9.heap.size w9 w10 := bstep (show Below w9.heap.size w9 _ by (repeat (first | with_reducible exact Below.refl _ _ | with_reducible assumption | with_reducible refine balloc ?_ _ | with_reducible refine bdrew ?_ | with_reducible refine below_drewN ?_ _ | with_reducible refine bset ?_ ?_ _ | with_reducible exact Nat.le_refl _ | with_reducible refine bsize ?_ | (dsimp only; refine Nat.le_trans ?_ (Nat.le_add_right _ _)) | with_reducible refine Nat.le_trans ?_ (Nat.le_add_right _ _) | (with_reducible refine bstep ?_ (by assumption))))) hb10
  have da0 : w10.cell? ⟨w9.heap.size, 0, none⟩ = some (.int .i64 0) := (hb10.cell (p := ⟨w9.heap.size, 0, none⟩) (by first | (simp; done) | (simp; omega))).trans (by first | (simp [go_sem]; done) | (simp [go_sem, *]; done))
  have da1 : w10.cell? ⟨w9.heap.size, 1, none⟩ = some (.int .i64 0) := (hb10.cell (p := ⟨w9.heap.size, 1, none⟩) (by first | (simp; done) | (simp; omega))).trans (by first | (simp [go_sem]; done) | (simp [go_sem, *]; done))
  have daz : w9.heap.size < w10.heap.size := Nat.lt_of_lt_of_le (by first | (simp; done) | (simp; omega)) hb10.size
  replace ra0 := keepa f10 raz ra0
  replace ra1 := keepa f10 raz ra1
  replace rb0 := keepa f10 rbz rb0
  replace rb1 := keepa f10 rbz rb1
  replace ha0 := keepa f10 haz ha0
  replace ha1 := keepa f10 haz ha1
  replace hb0 := keepa f10 hbz hb0
  replace hb1 := keepa f10 hbz hb1
  replace ua0 := keepa f10 uaz ua0
  replace ua1 := keepa f10 uaz ua1
  replace ub0 := keepa f10 ubz ub0
  replace ub1 := keepa f10 ubz ub1
  replace raz := Nat.lt_of_lt_of_le raz f10.size
  replace rbz := Nat.lt_of_lt_of_le rbz f10.size
  replace haz := Nat.lt_of_lt_of_le haz f10.size
  replace hbz := Nat.lt_of_lt_of_le hbz f10.size
  replace uaz := Nat.lt_of_lt_of_le uaz f10.size
  replace ubz := Nat.lt_of_lt_of_le ubz f10.size
  replace o1 := ownsRow_below o1 f10
  replace o2 := ownsRow_below o2 f10
  have bq10 := bstep bq9 f10
  clear hb10 f10 bq9
  go_wp2_with fail; refine (HStayStopsi.out _).mono ?_; rintro e w11 ⟨v3, rfl, o3, hb11⟩
  have f11 : Below w10.heap.size w10 w11 := bstep (show Below w10.heap.size w10 _ by (repeat (first | with_reducible exact Below.refl _ _ | with_reducible assumption | with_reducible refine balloc ?_ _ | with_reducible refine bdrew ?_ | with_reducible refine below_drewN ?_ _ | with_reducible refine bset ?_ ?_ _ | with_reducible exact Nat.le_refl _ | with_reducible refine bsize ?_ | (dsimp only; refine Nat.le_trans ?_ (Nat.le_add_right _ _)) | with_reducible refine Nat.le_trans ?_ (Nat.le_add_right _ _) | (with_reducible refine bstep ?_ (by assumption))))) hb11
  have db0 : w11.cell? ⟨w10.heap.size, 0, none⟩ = some (.int .i64 0) := (hb11.cell (p := ⟨w10.heap.size, 0, none⟩) (by first | (simp; done) | (simp; omega))).trans (by first | (simp [go_sem]; done) | (simp [go_sem, *]; done))
  have db1 : w11.cell? ⟨w10.heap.size, 1, none⟩ = some (.int .i64 0) := (hb11.cell (p := ⟨w10.heap.size, 1, none⟩) (by first | (simp; done) | (simp; omega))).trans (by first | (simp [go_sem]; done) | (simp [go_sem, *]; done))
  have dbz : w10.heap.size < w11.heap.size := Nat.lt_of_lt_of_le (by first | (simp; done) | (simp; omega)) hb11.size
  replace ra0 := keepa f11 raz ra0
  replace ra1 := keepa f11 raz ra1
  replace rb0 := keepa f11 rbz rb0
  replace rb1 := keepa f11 rbz rb1
  replace ha0 := keepa f11 haz ha0
  replace ha1 := keepa f11 haz ha1
  replace hb0 := keepa f11 hbz hb0
  replace hb1 := keepa f11 hbz hb1
  replace ua0 := keepa f11 uaz ua0
  replace ua1 := keepa f11 uaz ua1
  replace ub0 := keepa f11 ubz ub0
  replace ub1 := keepa f11 ubz ub1
  replace da0 := keepa f11 daz da0
  replace da1 := keepa f11 daz da1
  replace raz := Nat.lt_of_lt_of_le raz f11.size
  replace rbz := Nat.lt_of_lt_of_le rbz f11.size
  replace haz := Nat.lt_of_lt_of_le haz f11.size
  replace hbz := Nat.lt_of_lt_of_le hbz f11.size
  replace uaz := Nat.lt_of_lt_of_le uaz f11.size
  replace ubz := Nat.lt_of_lt_of_le ubz f11.size
  replace daz := Nat.lt_of_lt_of_le daz f11.size
  replace o1 := ownsRow_below o1 f11
  replace o2 := ownsRow_below o2 f11
  have bq11 := bstep bq10 f11
  clear hb11 f11 bq10
  go_wp2_with fail; refine (HStayStopss.out _).mono ?_; rintro e w12 ⟨v4, rfl, o4, hb12⟩
  have f12 : Below w11.heap.size w11 w12 := bstep (show Below w11.heap.size w11 _ by (repeat (first | with_reducible exact Below.refl _ _ | with_reducible assumption | with_reducible refine balloc ?_ _ | with_reducible refine bdrew ?_ | with_reducible refine below_drewN ?_ _ | with_reducible refine bset ?_ ?_ _ | with_reducible exact Nat.le_refl _ | with_reducible refine bsize ?_ | (dsimp only; refine Nat.le_trans ?_ (Nat.le_add_right _ _)) | with_reducible refine Nat.le_trans ?_ (Nat.le_add_right _ _) | (with_reducible refine bstep ?_ (by assumption))))) hb12
  replace ra0 := keepa f12 raz ra0
  replace ra1 := keepa f12 raz ra1
  replace rb0 := keepa f12 rbz rb0
  replace rb1 := keepa f12 rbz rb1
  replace ha0 := keepa f12 haz ha0
  replace ha1 := keepa f12 haz ha1
  replace hb0 := keepa f12 hbz hb0
  replace hb1 := keepa f12 hbz hb1
  replace ua0 := keepa f12 uaz ua0
  replace ua1 := keepa f12 uaz ua1
  replace ub0 := keepa f12 ubz ub0
  replace ub1 := keepa f12 ubz ub1
  replace da0 := keepa f12 daz da0
  replace da1 := keepa f12 daz da1
  replace db0 := keepa f12 dbz db0
  replace db1 := keepa f12 dbz db1
  replace raz := Nat.lt_of_lt_of_le raz f12.size
  replace rbz := Nat.lt_of_lt_of_le rbz f12.size
  replace haz := Nat.lt_of_lt_of_le haz f12.size
  replace hbz := Nat.lt_of_lt_of_le hbz f12.size
  replace uaz := Nat.lt_of_lt_of_le uaz f12.size
  replace ubz := Nat.lt_of_lt_of_le ubz f12.size
  replace daz := Nat.lt_of_lt_of_le daz f12.size
  replace dbz := Nat.lt_of_lt_of_le dbz f12.size
  replace o1 := ownsRow_below o1 f12
  replace o2 := ownsRow_below o2 f12
  replace o3 := ownsRow_below o3 f12
  have bq12 := bstep bq11 f12
  clear hb12 f12 bq11
  go_wp2_with fail; refine (HStayReachi.out _).mono ?_; rintro e w13 ⟨rfl, hb13⟩
  have f13 : Below w12.heap.size w12 w13 := bstep (show Below w12.heap.size w12 _ by (repeat (first | with_reducible exact Below.refl _ _ | with_reducible assumption | with_reducible refine balloc ?_ _ | with_reducible refine bdrew ?_ | with_reducible refine below_drewN ?_ _ | with_reducible refine bset ?_ ?_ _ | with_reducible exact Nat.le_refl _ | with_reducible refine bsize ?_ | (dsimp only; refine Nat.le_trans ?_ (Nat.le_add_right _ _)) | with_reducible refine Nat.le_trans ?_ (Nat.le_add_right _ _) | (with_reducible refine bstep ?_ (by assumption))))) hb13
  replace ra0 := keepa f13 raz ra0
  replace ra1 := keepa f13 raz ra1
  replace rb0 := keepa f13 rbz rb0
  replace rb1 := keepa f13 rbz rb1
  replace ha0 := keepa f13 haz ha0
  replace ha1 := keepa f13 haz ha1
  replace hb0 := keepa f13 hbz hb0
  replace hb1 := keepa f13 hbz hb1
  replace ua0 := keepa f13 uaz ua0
  replace ua1 := keepa f13 uaz ua1
  replace ub0 := keepa f13 ubz ub0
  replace ub1 := keepa f13 ubz ub1
  replace da0 := keepa f13 daz da0
  replace da1 := keepa f13 daz da1
  replace db0 := keepa f13 dbz db0
  replace db1 := keepa f13 dbz db1
  replace raz := Nat.lt_of_lt_of_le raz f13.size
  replace rbz := Nat.lt_of_lt_of_le rbz f13.size
  replace haz := Nat.lt_of_lt_of_le haz f13.size
  replace hbz := Nat.lt_of_lt_of_le hbz f13.size
  replace uaz := Nat.lt_of_lt_of_le uaz f13.size
  replace ubz := Nat.lt_of_lt_of_le ubz f13.size
  replace daz := Nat.lt_of_lt_of_le daz f13.size
  replace dbz := Nat.lt_of_lt_of_le dbz f13.size
  replace o1 := ownsRow_below o1 f13
  replace o2 := ownsRow_below o2 f13
  replace o3 := ownsRow_below o3 f13
  replace o4 := ownsRow_below o4 f13
  have bq13 := bstep bq12 f13
  clear hb13 f13 bq12
  go_wp2_with fail; refine (HStayReachs.out _).mono ?_; rintro e w14 ⟨rfl, hb14⟩
  have f14 : Below w13.heap.size w13 w14 := bstep (show Below w13.heap.size w13 _ by (repeat (first | with_reducible exact Below.refl _ _ | with_reducible assumption | with_reducible refine balloc ?_ _ | with_reducible refine bdrew ?_ | with_reducible refine below_drewN ?_ _ | with_reducible refine bset ?_ ?_ _ | with_reducible exact Nat.le_refl _ | with_reducible refine bsize ?_ | (dsimp only; refine Nat.le_trans ?_ (Nat.le_add_right _ _)) | with_reducible refine Nat.le_trans ?_ (Nat.le_add_right _ _) | (with_reducible refine bstep ?_ (by assumption))))) hb14
  have sa0 : w14.cell? ⟨w13.heap.size, 0, none⟩ = some (.int .i64 0) := (hb14.cell (p := ⟨w13.heap.size, 0, none⟩) (by first | (simp; done) | (simp; omega))).trans (by first | (simp [go_sem]; done) | (simp [go_sem, *]; done))
  have sa1 : w14.cell? ⟨w13.heap.size, 1, none⟩ = some (.int .i64 0) := (hb14.cell (p := ⟨w13.heap.size, 1, none⟩) (by first | (simp; done) | (simp; omega))).trans (by first | (simp [go_sem]; done) | (simp [go_sem, *]; done))
  have saz : w13.heap.size < w14.heap.size := Nat.lt_of_lt_of_le (by first | (simp; done) | (simp; omega)) hb14.size
  replace ra0 := keepa f14 raz ra0
  replace ra1 := keepa f14 raz ra1
  replace rb0 := keepa f14 rbz rb0
  replace rb1 := keepa f14 rbz rb1
  replace ha0 := keepa f14 haz ha0
  replace ha1 := keepa f14 haz ha1
  replace hb0 := keepa f14 hbz hb0
  replace hb1 := keepa f14 hbz hb1
  replace ua0 := keepa f14 uaz ua0
  replace ua1 := keepa f14 uaz ua1
  replace ub0 := keepa f14 ubz ub0
  replace ub1 := keepa f14 ubz ub1
  replace da0 := keepa f14 daz da0
  replace da1 := keepa f14 daz da1
  replace db0 := keepa f14 dbz db0
  replace db1 := keepa f14 dbz db1
  replace raz := Nat.lt_of_lt_of_le raz f14.size
  replace rbz := Nat.lt_of_lt_of_le rbz f14.size
  replace haz := Nat.lt_of_lt_of_le haz f14.size
  replace hbz := Nat.lt_of_lt_of_le hbz f14.size
  replace uaz := Nat.lt_of_lt_of_le uaz f14.size
  replace ubz := Nat.lt_of_lt_of_le ubz f14.size
  replace daz := Nat.lt_of_lt_of_le daz f14.size
  replace dbz := Nat.lt_of_lt_of_le dbz f14.size
  replace o1 := ownsRow_below o1 f14
  replace o2 := ownsRow_below o2 f14
  replace o3 := ownsRow_below o3 f14
  replace o4 := ownsRow_below o4 f14
  have bq14 := bstep bq13 f14
  clear hb14 f14 bq13
  go_upto_region 15 with fail
  refine (fun (h : ∀ V, V = _ → Code.wp _ _ _ _ V) => h _ rfl) ?_
  intro w15 hV15
  have f15 : Below w14.heap.size w14 w15 := by rw [hV15]; (repeat (first | with_reducible exact Below.refl _ _ | with_reducible assumption | with_reducible refine balloc ?_ _ | with_reducible refine bdrew ?_ | with_reducible refine below_drewN ?_ _ | with_reducible refine bset ?_ ?_ _ | with_reducible exact Nat.le_refl _ | with_reducible refine bsize ?_ | (dsimp only; refine Nat.le_trans ?_ (Nat.le_add_right _ _)) | with_reducible refine Nat.le_trans ?_ (Nat.le_add_right _ _) | (with_reducible refine bstep ?_ (by assumption))))
  have sb0 : w15.cell? ⟨w14.heap.size, 0, none⟩ = some (.int .i64 0) := by rw [hV15]; first | (simp [go_sem]; done) | (simp [go_sem, *]; done)
  have sb1 : w15.cell? ⟨w14.heap.size, 1, none⟩ = some (.int .i64 0) := by rw [hV15]; first | (simp [go_sem]; done) | (simp [go_sem, *]; done)
  have sbz : w14.heap.size < w15.heap.size := by rw [hV15]; first | (simp; done) | (simp; omega)
  replace ra0 := keepa f15 raz ra0
  replace ra1 := keepa f15 raz ra1
  replace rb0 := keepa f15 rbz rb0
  replace rb1 := keepa f15 rbz rb1
  replace ha0 := keepa f15 haz ha0
  replace ha1 := keepa f15 haz ha1
  replace hb0 := keepa f15 hbz hb0
  replace hb1 := keepa f15 hbz hb1
  replace ua0 := keepa f15 uaz ua0
  replace ua1 := keepa f15 uaz ua1
  replace ub0 := keepa f15 ubz ub0
  replace ub1 := keepa f15 ubz ub1
  replace da0 := keepa f15 daz da0
  replace da1 := keepa f15 daz da1
  replace db0 := keepa f15 dbz db0
  replace db1 := keepa f15 dbz db1
  replace sa0 := keepa f15 saz sa0
  replace sa1 := keepa f15 saz sa1
  replace raz := Nat.lt_of_lt_of_le raz f15.size
  replace rbz := Nat.lt_of_lt_of_le rbz f15.size
  replace haz := Nat.lt_of_lt_of_le haz f15.size
  replace hbz := Nat.lt_of_lt_of_le hbz f15.size
  replace uaz := Nat.lt_of_lt_of_le uaz f15.size
  replace ubz := Nat.lt_of_lt_of_le ubz f15.size
  replace daz := Nat.lt_of_lt_of_le daz f15.size
  replace dbz := Nat.lt_of_lt_of_le dbz f15.size
  replace saz := Nat.lt_of_lt_of_le saz f15.size
  replace o1 := ownsRow_below o1 f15
  replace o2 := ownsRow_below o2 f15
  replace o3 := ownsRow_below o3 f15
  replace o4 := ownsRow_below o4 f15
  have bq15 := bstep bq14 f15
  clear hV15 f15 bq14
  go_wp2_with fail; refine (xStops_same _ _ [] _ _ _ (by simp) o1 o2).mono ?_; rintro e w16 ⟨rfl, hb16⟩
  have f16 : Below w15.heap.size w15 w16 := bstep (show Below w15.heap.size w15 _ by (repeat (first | with_reducible exact Below.refl _ _ | with_reducible assumption | with_reducible refine balloc ?_ _ | with_reducible refine bdrew ?_ | with_reducible refine below_drewN ?_ _ | with_reducible refine bset ?_ ?_ _ | with_reducible exact Nat.le_refl _ | with_reducible refine bsize ?_ | (dsimp only; refine Nat.le_trans ?_ (Nat.le_add_right _ _)) | with_reducible refine Nat.le_trans ?_ (Nat.le_add_right _ _) | (with_reducible refine bstep ?_ (by assumption))))) hb16
  replace ra0 := keepa f16 raz ra0
  replace ra1 := keepa f16 raz ra1
  replace rb0 := keepa f16 rbz rb0
  replace rb1 := keepa f16 rbz rb1
  replace ha0 := keepa f16 haz ha0
  replace ha1 := keepa f16 haz ha1
  replace hb0 := keepa f16 hbz hb0
  replace hb1 := keepa f16 hbz hb1
  replace ua0 := keepa f16 uaz ua0
  replace ua1 := keepa f16 uaz ua1
  replace ub0 := keepa f16 ubz ub0
  replace ub1 := keepa f16 ubz ub1
  replace da0 := keepa f16 daz da0
  replace da1 := keepa f16 daz da1
  replace db0 := keepa f16 dbz db0
  replace db1 := keepa f16 dbz db1
  replace sa0 := keepa f16 saz sa0
  replace sa1 := keepa f16 saz sa1
  replace sb0 := keepa f16 sbz sb0
  replace sb1 := keepa f16 sbz sb1
  replace raz := Nat.lt_of_lt_of_le raz f16.size
  replace rbz := Nat.lt_of_lt_of_le rbz f16.size
  replace haz := Nat.lt_of_lt_of_le haz f16.size
  replace hbz := Nat.lt_of_lt_of_le hbz f16.size
  replace uaz := Nat.lt_of_lt_of_le uaz f16.size
  replace ubz := Nat.lt_of_lt_of_le ubz f16.size
  replace daz := Nat.lt_of_lt_of_le daz f16.size
  replace dbz := Nat.lt_of_lt_of_le dbz f16.size
  replace saz := Nat.lt_of_lt_of_le saz f16.size
  replace sbz := Nat.lt_of_lt_of_le sbz f16.size
  replace o1 := ownsRow_below o1 f16
  replace o2 := ownsRow_below o2 f16
  replace o3 := ownsRow_below o3 f16
  replace o4 := ownsRow_below o4 f16
  have bq16 := bstep bq15 f16
  clear hb16 f16 bq15
  go_wp2_with fail; refine (xStops_same _ _ [] _ _ _ (by simp) o3 o4).mono ?_; rintro e w17 ⟨rfl, hb17⟩
  have f17 : Below w16.heap.size w16 w17 := bstep (show Below w16.heap.size w16 _ by (repeat (first | with_reducible exact Below.refl _ _ | with_reducible assumption | with_reducible refine balloc ?_ _ | with_reducible refine bdrew ?_ | with_reducible refine below_drewN ?_ _ | with_reducible refine bset ?_ ?_ _ | with_reducible exact Nat.le_refl _ | with_reducible refine bsize ?_ | (dsimp only; refine Nat.le_trans ?_ (Nat.le_add_right _ _)) | with_reducible refine Nat.le_trans ?_ (Nat.le_add_right _ _) | (with_reducible refine bstep ?_ (by assumption))))) hb17
  replace ra0 := keepa f17 raz ra0
  replace ra1 := keepa f17 raz ra1
  replace rb0 := keepa f17 rbz rb0
  replace rb1 := keepa f17 rbz rb1
  replace ha0 := keepa f17 haz ha0
  replace ha1 := keepa f17 haz ha1
  replace hb0 := keepa f17 hbz hb0
  replace hb1 := keepa f17 hbz hb1
  replace ua0 := keepa f17 uaz ua0
  replace ua1 := keepa f17 uaz ua1
  replace ub0 := keepa f17 ubz ub0
  replace ub1 := keepa f17 ubz ub1
  replace da0 := keepa f17 daz da0
  replace da1 := keepa f17 daz da1
  replace db0 := keepa f17 dbz db0
  replace db1 := keepa f17 dbz db1
  replace sa0 := keepa f17 saz sa0
  replace sa1 := keepa f17 saz sa1
  replace sb0 := keepa f17 sbz sb0
  replace sb1 := keepa f17 sbz sb1
  replace raz := Nat.lt_of_lt_of_le raz f17.size
  replace rbz := Nat.lt_of_lt_of_le rbz f17.size
  replace haz := Nat.lt_of_lt_of_le haz f17.size
  replace hbz := Nat.lt_of_lt_of_le hbz f17.size
  replace uaz := Nat.lt_of_lt_of_le uaz f17.size
  replace ubz := Nat.lt_of_lt_of_le ubz f17.size
  replace daz := Nat.lt_of_lt_of_le daz f17.size
  replace dbz := Nat.lt_of_lt_of_le dbz f17.size
  replace saz := Nat.lt_of_lt_of_le saz f17.size
  replace sbz := Nat.lt_of_lt_of_le sbz f17.size
  replace o1 := ownsRow_below o1 f17
  replace o2 := ownsRow_below o2 f17
  replace o3 := ownsRow_below o3 f17
  replace o4 := ownsRow_below o4 f17
  have bq17 := bstep bq16 f17
  clear hb17 f17 bq16
  go_wp2
  go_ret
  exact ⟨rfl, by (repeat (first | with_reducible exact Below.refl _ _ | with_reducible assumption | with_reducible refine balloc ?_ _ | with_reducible refine bdrew ?_ | with_reducible refine below_drewN ?_ _ | with_reducible refine bset ?_ ?_ _ | with_reducible exact Nat.le_refl _ | with_reducible refine bsize ?_ | (dsimp only; refine Nat.le_trans ?_ (Nat.le_add_right _ _)) | with_reducible refine Nat.le_trans ?_ (Nat.le_add_right _ _) | (with_reducible refine bstep ?_ (by assumption))))⟩
end Go.Proofs.Ythebhljhlpfknaa
