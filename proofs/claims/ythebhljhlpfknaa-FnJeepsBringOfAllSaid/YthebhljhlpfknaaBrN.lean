/- The walk of the law FnJeepsBringOfAll where there are not so many tanks. -/
import Derived.Test.YthebhljhlpfknaaBrT
import Derived.Test.YthebhljhlpfknaaXe
import Derived.Test.YthebhljhlpfknaaLawBase
import Derived.Test.YthebhljhlpfknaaRes8
import Derived.Deep.RegionHeld3
import Derived.Deep.DeepCutAuto
namespace Go.Proofs.Ythebhljhlpfknaa
open Go.ChangeShapes Go.WideShapes Go.ChangeAt Go.RowKit Go.Joins
set_option maxRecDepth 100000
set_option linter.unusedVariables false
set_option linter.unusedSimpArgs false

set_option maxHeartbeats 6400000 in
theorem br_no (n : Int) (bn : -9223372036854775808 ≤ n ∧ n ≤ 9223372036854775807) (hn : tkOk n = false) (w : World) :
    Calls Try.prog 4 #[.int .i64 n] w fun e w' => e = .returned (.bool true) ∧ Below w.heap.size w w' := by
  have HDepotsOuti := fun W => depotsOut_impl n bn W
  simp only [hn, dpL, trL, crL, Bool.false_eq_true, if_false] at HDepotsOuti
  have HDepotsBacki := fun W => depotsBack_impl n bn W
  simp only [hn, dpL, trL, crL, Bool.false_eq_true, if_false] at HDepotsBacki
  have HTripsOuti := fun W => tripsOut_impl n bn W
  simp only [hn, dpL, trL, crL, Bool.false_eq_true, if_false] at HTripsOuti
  have HCarriesOuti := fun W => carriesOut_impl n bn W
  simp only [hn, dpL, trL, crL, Bool.false_eq_true, if_false] at HCarriesOuti
  have HDrivenOuti := fun W => drivenOut_impl n W
  simp only [hn, dvN, dvD, Bool.false_eq_true, if_false] at HDrivenOuti
  have HDepotsOuts := fun W => depotsOut_spec n bn W
  simp only [hn, dpL, trL, crL, Bool.false_eq_true, if_false] at HDepotsOuts
  have HDepotsBacks := fun W => depotsBack_spec n bn W
  simp only [hn, dpL, trL, crL, Bool.false_eq_true, if_false] at HDepotsBacks
  have HTripsOuts := fun W => tripsOut_spec n bn W
  simp only [hn, dpL, trL, crL, Bool.false_eq_true, if_false] at HTripsOuts
  have HCarriesOuts := fun W => carriesOut_spec n bn W
  simp only [hn, dpL, trL, crL, Bool.false_eq_true, if_false] at HCarriesOuts
  have HDrivenOuts := fun W => drivenOut_spec n W
  simp only [hn, dvN, dvD, Bool.false_eq_true, if_false] at HDrivenOuts
  have LDepotsOut := Lib.hid (show ([] : List DepotV).length ≤ 1048576 by simp)
  have LDepotsBack := Lib.hid (show ([] : List DepotV).length ≤ 1048576 by simp)
  have LTripsOut := Lib.hid (show ([] : List Int).length ≤ 1048576 by simp)
  have LCarriesOut := Lib.hid (show ([] : List (Int × Int)).length ≤ 1048576 by simp)
  replace HDepotsOuti := Lib.hid HDepotsOuti
  replace HDepotsOuts := Lib.hid HDepotsOuts
  replace HDepotsBacki := Lib.hid HDepotsBacki
  replace HDepotsBacks := Lib.hid HDepotsBacks
  replace HTripsOuti := Lib.hid HTripsOuti
  replace HTripsOuts := Lib.hid HTripsOuts
  replace HCarriesOuti := Lib.hid HCarriesOuti
  replace HCarriesOuts := Lib.hid HCarriesOuts
  replace HDrivenOuti := Lib.hid HDrivenOuti
  replace HDrivenOuts := Lib.hid HDrivenOuts
  clear hn
  go_enter Try.func4, Try.ntmps4
  have bq0 : Below w.heap.size w w := Below.refl _ _
  go_wp2_with fail; refine (HDepotsOuti.out _).mono ?_; rintro e w1 ⟨vo1, rfl, o1, hb1⟩
  have f1 : Below w.heap.size w w1 := bstep (show Below w.heap.size w _ by (repeat (first | with_reducible exact Below.refl _ _ | with_reducible assumption | with_reducible refine balloc ?_ _ | with_reducible refine bdrew ?_ | with_reducible refine below_drewN ?_ _ | with_reducible refine bset ?_ ?_ _ | with_reducible exact Nat.le_refl _ | with_reducible refine bsize ?_ | (dsimp only; refine Nat.le_trans ?_ (Nat.le_add_right _ _)) | with_reducible refine Nat.le_trans ?_ (Nat.le_add_right _ _) | (with_reducible refine bstep ?_ (by assumption))))) hb1
  have bq1 := bstep bq0 f1
  clear hb1 f1 bq0
  go_wp2_with fail; refine (HDepotsOuts.out _).mono ?_; rintro e w2 ⟨vo2, rfl, o2, hb2⟩
  have f2 : Below w1.heap.size w1 w2 := bstep (show Below w1.heap.size w1 _ by (repeat (first | with_reducible exact Below.refl _ _ | with_reducible assumption | with_reducible refine balloc ?_ _ | with_reducible refine bdrew ?_ | with_reducible refine below_drewN ?_ _ | with_reducible refine bset ?_ ?_ _ | with_reducible exact Nat.le_refl _ | with_reducible refine bsize ?_ | (dsimp only; refine Nat.le_trans ?_ (Nat.le_add_right _ _)) | with_reducible refine Nat.le_trans ?_ (Nat.le_add_right _ _) | (with_reducible refine bstep ?_ (by assumption))))) hb2
  replace o1 := ownsRow_below o1 f2
  have bq2 := bstep bq1 f2
  clear hb2 f2 bq1
  go_wp2_with fail; refine (HDepotsBacki.out _).mono ?_; rintro e w3 ⟨vo3, rfl, o3, hb3⟩
  have f3 : Below w2.heap.size w2 w3 := bstep (show Below w2.heap.size w2 _ by (repeat (first | with_reducible exact Below.refl _ _ | with_reducible assumption | with_reducible refine balloc ?_ _ | with_reducible refine bdrew ?_ | with_reducible refine below_drewN ?_ _ | with_reducible refine bset ?_ ?_ _ | with_reducible exact Nat.le_refl _ | with_reducible refine bsize ?_ | (dsimp only; refine Nat.le_trans ?_ (Nat.le_add_right _ _)) | with_reducible refine Nat.le_trans ?_ (Nat.le_add_right _ _) | (with_reducible refine bstep ?_ (by assumption))))) hb3
  replace o1 := ownsRow_below o1 f3
  replace o2 := ownsRow_below o2 f3
  have bq3 := bstep bq2 f3
  clear hb3 f3 bq2
  go_wp2_with fail; refine (HDepotsBacks.out _).mono ?_; rintro e w4 ⟨vo4, rfl, o4, hb4⟩
  have f4 : Below w3.heap.size w3 w4 := bstep (show Below w3.heap.size w3 _ by (repeat (first | with_reducible exact Below.refl _ _ | with_reducible assumption | with_reducible refine balloc ?_ _ | with_reducible refine bdrew ?_ | with_reducible refine below_drewN ?_ _ | with_reducible refine bset ?_ ?_ _ | with_reducible exact Nat.le_refl _ | with_reducible refine bsize ?_ | (dsimp only; refine Nat.le_trans ?_ (Nat.le_add_right _ _)) | with_reducible refine Nat.le_trans ?_ (Nat.le_add_right _ _) | (with_reducible refine bstep ?_ (by assumption))))) hb4
  replace o1 := ownsRow_below o1 f4
  replace o2 := ownsRow_below o2 f4
  replace o3 := ownsRow_below o3 f4
  have bq4 := bstep bq3 f4
  clear hb4 f4 bq3
  go_wp2_with fail; refine (HTripsOuti.out _).mono ?_; rintro e w5 ⟨vo5, rfl, o5, hb5⟩
  have f5 : Below w4.heap.size w4 w5 := bstep (show Below w4.heap.size w4 _ by (repeat (first | with_reducible exact Below.refl _ _ | with_reducible assumption | with_reducible refine balloc ?_ _ | with_reducible refine bdrew ?_ | with_reducible refine below_drewN ?_ _ | with_reducible refine bset ?_ ?_ _ | with_reducible exact Nat.le_refl _ | with_reducible refine bsize ?_ | (dsimp only; refine Nat.le_trans ?_ (Nat.le_add_right _ _)) | with_reducible refine Nat.le_trans ?_ (Nat.le_add_right _ _) | (with_reducible refine bstep ?_ (by assumption))))) hb5
  replace o1 := ownsRow_below o1 f5
  replace o2 := ownsRow_below o2 f5
  replace o3 := ownsRow_below o3 f5
  replace o4 := ownsRow_below o4 f5
  have bq5 := bstep bq4 f5
  clear hb5 f5 bq4
  go_wp2_with fail; refine (HTripsOuts.out _).mono ?_; rintro e w6 ⟨vo6, rfl, o6, hb6⟩
  have f6 : Below w5.heap.size w5 w6 := bstep (show Below w5.heap.size w5 _ by (repeat (first | with_reducible exact Below.refl _ _ | with_reducible assumption | with_reducible refine balloc ?_ _ | with_reducible refine bdrew ?_ | with_reducible refine below_drewN ?_ _ | with_reducible refine bset ?_ ?_ _ | with_reducible exact Nat.le_refl _ | with_reducible refine bsize ?_ | (dsimp only; refine Nat.le_trans ?_ (Nat.le_add_right _ _)) | with_reducible refine Nat.le_trans ?_ (Nat.le_add_right _ _) | (with_reducible refine bstep ?_ (by assumption))))) hb6
  replace o1 := ownsRow_below o1 f6
  replace o2 := ownsRow_below o2 f6
  replace o3 := ownsRow_below o3 f6
  replace o4 := ownsRow_below o4 f6
  replace o5 := ownsRow_below o5 f6
  have bq6 := bstep bq5 f6
  clear hb6 f6 bq5
  go_wp2_with fail; refine (HCarriesOuti.out _).mono ?_; rintro e w7 ⟨vo7, rfl, o7, hb7⟩
  have f7 : Below w6.heap.size w6 w7 := bstep (show Below w6.heap.size w6 _ by (repeat (first | with_reducible exact Below.refl _ _ | with_reducible assumption | with_reducible refine balloc ?_ _ | with_reducible refine bdrew ?_ | with_reducible refine below_drewN ?_ _ | with_reducible refine bset ?_ ?_ _ | with_reducible exact Nat.le_refl _ | with_reducible refine bsize ?_ | (dsimp only; refine Nat.le_trans ?_ (Nat.le_add_right _ _)) | with_reducible refine Nat.le_trans ?_ (Nat.le_add_right _ _) | (with_reducible refine bstep ?_ (by assumption))))) hb7
  replace o1 := ownsRow_below o1 f7
  replace o2 := ownsRow_below o2 f7
  replace o3 := ownsRow_below o3 f7
  replace o4 := ownsRow_below o4 f7
  replace o5 := ownsRow_below o5 f7
  replace o6 := ownsRow_below o6 f7
  have bq7 := bstep bq6 f7
  clear hb7 f7 bq6
  go_wp2_with fail; refine (HCarriesOuts.out _).mono ?_; rintro e w8 ⟨vo8, rfl, o8, hb8⟩
  have f8 : Below w7.heap.size w7 w8 := bstep (show Below w7.heap.size w7 _ by (repeat (first | with_reducible exact Below.refl _ _ | with_reducible assumption | with_reducible refine balloc ?_ _ | with_reducible refine bdrew ?_ | with_reducible refine below_drewN ?_ _ | with_reducible refine bset ?_ ?_ _ | with_reducible exact Nat.le_refl _ | with_reducible refine bsize ?_ | (dsimp only; refine Nat.le_trans ?_ (Nat.le_add_right _ _)) | with_reducible refine Nat.le_trans ?_ (Nat.le_add_right _ _) | (with_reducible refine bstep ?_ (by assumption))))) hb8
  replace o1 := ownsRow_below o1 f8
  replace o2 := ownsRow_below o2 f8
  replace o3 := ownsRow_below o3 f8
  replace o4 := ownsRow_below o4 f8
  replace o5 := ownsRow_below o5 f8
  replace o6 := ownsRow_below o6 f8
  replace o7 := ownsRow_below o7 f8
  have bq8 := bstep bq7 f8
  clear hb8 f8 bq7
  go_wp2_with fail; refine (HDrivenOuti.out _).mono ?_; rintro e w9 ⟨rfl, hb9⟩
  have f9 : Below w8.heap.size w8 w9 := bstep (show Below w8.heap.size w8 _ by (repeat (first | with_reducible exact Below.refl _ _ | with_reducible assumption | with_reducible refine balloc ?_ _ | with_reducible refine bdrew ?_ | with_reducible refine below_drewN ?_ _ | with_reducible refine bset ?_ ?_ _ | with_reducible exact Nat.le_refl _ | with_reducible refine bsize ?_ | (dsimp only; refine Nat.le_trans ?_ (Nat.le_add_right _ _)) | with_reducible refine Nat.le_trans ?_ (Nat.le_add_right _ _) | (with_reducible refine bstep ?_ (by assumption))))) hb9
  replace o1 := ownsRow_below o1 f9
  replace o2 := ownsRow_below o2 f9
  replace o3 := ownsRow_below o3 f9
  replace o4 := ownsRow_below o4 f9
  replace o5 := ownsRow_below o5 f9
  replace o6 := ownsRow_below o6 f9
  replace o7 := ownsRow_below o7 f9
  replace o8 := ownsRow_below o8 f9
  have bq9 := bstep bq8 f9
  clear hb9 f9 bq8
  go_wp2_with fail; refine (HDrivenOuts.out _).mono ?_; rintro e w10 ⟨rfl, hb10⟩
  have f10 : Below w9.heap.size w9 w10 := bstep (show Below w9.heap.size w9 _ by (repeat (first | with_reducible exact Below.refl _ _ | with_reducible assumption | with_reducible refine balloc ?_ _ | with_reducible refine bdrew ?_ | with_reducible refine below_drewN ?_ _ | with_reducible refine bset ?_ ?_ _ | with_reducible exact Nat.le_refl _ | with_reducible refine bsize ?_ | (dsimp only; refine Nat.le_trans ?_ (Nat.le_add_right _ _)) | with_reducible refine Nat.le_trans ?_ (Nat.le_add_right _ _) | (with_reducible refine bstep ?_ (by assumption))))) hb10
  have da0 : w10.cell? ⟨w9.heap.size, 0, none⟩ = some (.int .i64 0) := (hb10.cell (p := ⟨w9.heap.size, 0, none⟩) (by first | (simp; done) | (simp; omega))).trans (by first | (simp [go_sem]; done) | (simp [go_sem, *]; done))
  have da1 : w10.cell? ⟨w9.heap.size, 1, none⟩ = some (.int .i64 0) := (hb10.cell (p := ⟨w9.heap.size, 1, none⟩) (by first | (simp; done) | (simp; omega))).trans (by first | (simp [go_sem]; done) | (simp [go_sem, *]; done))
  have daz : w9.heap.size < w10.heap.size := Nat.lt_of_lt_of_le (by first | (simp; done) | (simp; omega)) hb10.size
  replace o1 := ownsRow_below o1 f10
  replace o2 := ownsRow_below o2 f10
  replace o3 := ownsRow_below o3 f10
  replace o4 := ownsRow_below o4 f10
  replace o5 := ownsRow_below o5 f10
  replace o6 := ownsRow_below o6 f10
  replace o7 := ownsRow_below o7 f10
  replace o8 := ownsRow_below o8 f10
  have bq10 := bstep bq9 f10
  clear hb10 f10 bq9
  go_upto_region 11 with fail
  refine (fun (h : ∀ V, V = _ → Code.wp _ _ _ _ V) => h _ rfl) ?_
  intro w11 hV11
  have f11 : Below w10.heap.size w10 w11 := by rw [hV11]; (repeat (first | with_reducible exact Below.refl _ _ | with_reducible assumption | with_reducible refine balloc ?_ _ | with_reducible refine bdrew ?_ | with_reducible refine below_drewN ?_ _ | with_reducible refine bset ?_ ?_ _ | with_reducible exact Nat.le_refl _ | with_reducible refine bsize ?_ | (dsimp only; refine Nat.le_trans ?_ (Nat.le_add_right _ _)) | with_reducible refine Nat.le_trans ?_ (Nat.le_add_right _ _) | (with_reducible refine bstep ?_ (by assumption))))
  have db0 : w11.cell? ⟨w10.heap.size, 0, none⟩ = some (.int .i64 0) := by rw [hV11]; first | (simp [go_sem]; done) | (simp [go_sem, *]; done)
  have db1 : w11.cell? ⟨w10.heap.size, 1, none⟩ = some (.int .i64 0) := by rw [hV11]; first | (simp [go_sem]; done) | (simp [go_sem, *]; done)
  have dbz : w10.heap.size < w11.heap.size := by rw [hV11]; first | (simp; done) | (simp; omega)
  replace da0 := keepa f11 daz da0
  replace da1 := keepa f11 daz da1
  replace daz := Nat.lt_of_lt_of_le daz f11.size
  replace o1 := ownsRow_below o1 f11
  replace o2 := ownsRow_below o2 f11
  replace o3 := ownsRow_below o3 f11
  replace o4 := ownsRow_below o4 f11
  replace o5 := ownsRow_below o5 f11
  replace o6 := ownsRow_below o6 f11
  replace o7 := ownsRow_below o7 f11
  replace o8 := ownsRow_below o8 f11
  have bq11 := bstep bq10 f11
  clear hV11 f11 bq10
  go_wp2_with fail; refine (xDepots_same _ _ _ _ _ _ LDepotsOut.out o1 o2).mono ?_; rintro e w12 ⟨rfl, hb12⟩
  have f12 : Below w11.heap.size w11 w12 := bstep (show Below w11.heap.size w11 _ by (repeat (first | with_reducible exact Below.refl _ _ | with_reducible assumption | with_reducible refine balloc ?_ _ | with_reducible refine bdrew ?_ | with_reducible refine below_drewN ?_ _ | with_reducible refine bset ?_ ?_ _ | with_reducible exact Nat.le_refl _ | with_reducible refine bsize ?_ | (dsimp only; refine Nat.le_trans ?_ (Nat.le_add_right _ _)) | with_reducible refine Nat.le_trans ?_ (Nat.le_add_right _ _) | (with_reducible refine bstep ?_ (by assumption))))) hb12
  replace da0 := keepa f12 daz da0
  replace da1 := keepa f12 daz da1
  replace db0 := keepa f12 dbz db0
  replace db1 := keepa f12 dbz db1
  replace daz := Nat.lt_of_lt_of_le daz f12.size
  replace dbz := Nat.lt_of_lt_of_le dbz f12.size
  replace o1 := ownsRow_below o1 f12
  replace o2 := ownsRow_below o2 f12
  replace o3 := ownsRow_below o3 f12
  replace o4 := ownsRow_below o4 f12
  replace o5 := ownsRow_below o5 f12
  replace o6 := ownsRow_below o6 f12
  replace o7 := ownsRow_below o7 f12
  replace o8 := ownsRow_below o8 f12
  have bq12 := bstep bq11 f12
  clear hb12 f12 bq11
  go_wp2_with fail; refine (xDepots_same _ _ _ _ _ _ LDepotsBack.out o3 o4).mono ?_; rintro e w13 ⟨rfl, hb13⟩
  have f13 : Below w12.heap.size w12 w13 := bstep (show Below w12.heap.size w12 _ by (repeat (first | with_reducible exact Below.refl _ _ | with_reducible assumption | with_reducible refine balloc ?_ _ | with_reducible refine bdrew ?_ | with_reducible refine below_drewN ?_ _ | with_reducible refine bset ?_ ?_ _ | with_reducible exact Nat.le_refl _ | with_reducible refine bsize ?_ | (dsimp only; refine Nat.le_trans ?_ (Nat.le_add_right _ _)) | with_reducible refine Nat.le_trans ?_ (Nat.le_add_right _ _) | (with_reducible refine bstep ?_ (by assumption))))) hb13
  replace da0 := keepa f13 daz da0
  replace da1 := keepa f13 daz da1
  replace db0 := keepa f13 dbz db0
  replace db1 := keepa f13 dbz db1
  replace daz := Nat.lt_of_lt_of_le daz f13.size
  replace dbz := Nat.lt_of_lt_of_le dbz f13.size
  replace o1 := ownsRow_below o1 f13
  replace o2 := ownsRow_below o2 f13
  replace o3 := ownsRow_below o3 f13
  replace o4 := ownsRow_below o4 f13
  replace o5 := ownsRow_below o5 f13
  replace o6 := ownsRow_below o6 f13
  replace o7 := ownsRow_below o7 f13
  replace o8 := ownsRow_below o8 f13
  have bq13 := bstep bq12 f13
  clear hb13 f13 bq12
  go_wp2_with fail; refine (xSame_same _ _ _ _ _ _ LTripsOut.out o5 o6).mono ?_; rintro e w14 ⟨rfl, hb14⟩
  have f14 : Below w13.heap.size w13 w14 := bstep (show Below w13.heap.size w13 _ by (repeat (first | with_reducible exact Below.refl _ _ | with_reducible assumption | with_reducible refine balloc ?_ _ | with_reducible refine bdrew ?_ | with_reducible refine below_drewN ?_ _ | with_reducible refine bset ?_ ?_ _ | with_reducible exact Nat.le_refl _ | with_reducible refine bsize ?_ | (dsimp only; refine Nat.le_trans ?_ (Nat.le_add_right _ _)) | with_reducible refine Nat.le_trans ?_ (Nat.le_add_right _ _) | (with_reducible refine bstep ?_ (by assumption))))) hb14
  replace da0 := keepa f14 daz da0
  replace da1 := keepa f14 daz da1
  replace db0 := keepa f14 dbz db0
  replace db1 := keepa f14 dbz db1
  replace daz := Nat.lt_of_lt_of_le daz f14.size
  replace dbz := Nat.lt_of_lt_of_le dbz f14.size
  replace o1 := ownsRow_below o1 f14
  replace o2 := ownsRow_below o2 f14
  replace o3 := ownsRow_below o3 f14
  replace o4 := ownsRow_below o4 f14
  replace o5 := ownsRow_below o5 f14
  replace o6 := ownsRow_below o6 f14
  replace o7 := ownsRow_below o7 f14
  replace o8 := ownsRow_below o8 f14
  have bq14 := bstep bq13 f14
  clear hb14 f14 bq13
  go_wp2_with fail; refine (xAmounts_same _ _ _ _ _ _ LCarriesOut.out o7 o8).mono ?_; rintro e w15 ⟨rfl, hb15⟩
  have f15 : Below w14.heap.size w14 w15 := bstep (show Below w14.heap.size w14 _ by (repeat (first | with_reducible exact Below.refl _ _ | with_reducible assumption | with_reducible refine balloc ?_ _ | with_reducible refine bdrew ?_ | with_reducible refine below_drewN ?_ _ | with_reducible refine bset ?_ ?_ _ | with_reducible exact Nat.le_refl _ | with_reducible refine bsize ?_ | (dsimp only; refine Nat.le_trans ?_ (Nat.le_add_right _ _)) | with_reducible refine Nat.le_trans ?_ (Nat.le_add_right _ _) | (with_reducible refine bstep ?_ (by assumption))))) hb15
  replace da0 := keepa f15 daz da0
  replace da1 := keepa f15 daz da1
  replace db0 := keepa f15 dbz db0
  replace db1 := keepa f15 dbz db1
  replace daz := Nat.lt_of_lt_of_le daz f15.size
  replace dbz := Nat.lt_of_lt_of_le dbz f15.size
  replace o1 := ownsRow_below o1 f15
  replace o2 := ownsRow_below o2 f15
  replace o3 := ownsRow_below o3 f15
  replace o4 := ownsRow_below o4 f15
  replace o5 := ownsRow_below o5 f15
  replace o6 := ownsRow_below o6 f15
  replace o7 := ownsRow_below o7 f15
  replace o8 := ownsRow_below o8 f15
  have bq15 := bstep bq14 f15
  clear hb15 f15 bq14
  go_wp2
  go_ret
  exact ⟨rfl, by (repeat (first | with_reducible exact Below.refl _ _ | with_reducible assumption | with_reducible refine balloc ?_ _ | with_reducible refine bdrew ?_ | with_reducible refine below_drewN ?_ _ | with_reducible refine bset ?_ ?_ _ | with_reducible exact Nat.le_refl _ | with_reducible refine bsize ?_ | (dsimp only; refine Nat.le_trans ?_ (Nat.le_add_right _ _)) | with_reducible refine Nat.le_trans ?_ (Nat.le_add_right _ _) | (with_reducible refine bstep ?_ (by assumption))))⟩
end Go.Proofs.Ythebhljhlpfknaa
