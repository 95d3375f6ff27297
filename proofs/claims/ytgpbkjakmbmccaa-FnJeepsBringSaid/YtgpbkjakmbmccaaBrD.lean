/- The walk of the law FnJeepsBring. -/
import Derived.Test.YtgpbkjakmbmccaaBrT
import Derived.Test.YtgpbkjakmbmccaaBrX
import Derived.Test.YtgpbkjakmbmccaaXe
import Derived.Test.YtgpbkjakmbmccaaLawBase
import Derived.Test.YtgpbkjakmbmccaaRes8
import Derived.Test.YtgpbkjakmbmccaaCurE
import Derived.Deep.RegionHeld3
import Derived.Deep.DeepCutAuto
namespace Go.Proofs.Ytgpbkjakmbmccaa
open Go.ChangeShapes Go.WideShapes Go.ChangeAt Go.RowKit Go.Joins
set_option maxRecDepth 100000
set_option linter.unusedVariables false
set_option linter.unusedSimpArgs false

set_option maxHeartbeats 6400000 in
theorem brd_walk (u : Value) (w0 : World) (hu0 : BytesAt w0 u) (v : Value) (w00 : World) (hv0 : BytesAt w00 v) (wS : World) (ew : w0 = wS := by rfl) (ew2 : w00 = wS := by rfl) :
    Calls Try.prog 4 #[u, v] wS fun e w' => e = .returned (.bool true) ∧ Below wS.heap.size wS w' := by
  subst ew
  subst ew2
  have HB := Lib.hid (big_c u v w00 hu0 hv0)
  have HP := Lib.hid (fun W h => drawDepots_c u W (bytesAt_below hu0 (show Below w00.heap.size w00 W from h)))
  clear hu0 hv0
  go_enter Try.func4, Try.ntmps4
  go_wp2_with fail; refine HB.out.mono ?_; rintro e wb ⟨⟨bb, rfl⟩, hbb⟩
  cases bb
  · go_wp2_with fail; refine (HP.out _ hbb).mono ?_; rintro e w ⟨⟨n, rfl, hx⟩, hbd⟩
    replace hbd := bstep hbb hbd
    clear hbb HP HB
    cases hn : tkOk n
    · as_aux_lemma =>
        have bn : -9223372036854775808 ≤ n ∧ n ≤ 9223372036854775807 := by omega
        clear hx
        have HDepotsOuti := fun W => depotsOut_impl n bn W
        simp only [hn, dpL, trL, crL, Bool.false_eq_true, if_false] at HDepotsOuti
        have HDepotsBacki := fun W => depotsBack_impl n bn W
        simp only [hn, dpL, trL, crL, Bool.false_eq_true, if_false] at HDepotsBacki
        have HTripsOuti := fun W => tripsOut_impl n bn W
        simp only [hn, dpL, trL, crL, Bool.false_eq_true, if_false] at HTripsOuti
        have HCarriesOuti := fun W => carriesOut_impl n bn W
        simp only [hn, dpL, trL, crL, Bool.false_eq_true, if_false] at HCarriesOuti
        have HDrivenOuti := fun W => drivenOut_impl n W
        simp only [hn, dvN, dvD, Bool.false_eq_true, if_false] at HDrivenOuti
        have HDepotsOuts := fun W => depotsOut_spec n bn W
        simp only [hn, dpL, trL, crL, Bool.false_eq_true, if_false] at HDepotsOuts
        have HDepotsBacks := fun W => depotsBack_spec n bn W
        simp only [hn, dpL, trL, crL, Bool.false_eq_true, if_false] at HDepotsBacks
        have HTripsOuts := fun W => tripsOut_spec n bn W
        simp only [hn, dpL, trL, crL, Bool.false_eq_true, if_false] at HTripsOuts
        have HCarriesOuts := fun W => carriesOut_spec n bn W
        simp only [hn, dpL, trL, crL, Bool.false_eq_true, if_false] at HCarriesOuts
        have HDrivenOuts := fun W => drivenOut_spec n W
        simp only [hn, dvN, dvD, Bool.false_eq_true, if_false] at HDrivenOuts
        have LDepotsOut := Lib.hid (show ([] : List DepotV).length ≤ 1048576 by simp)
        have LDepotsBack := Lib.hid (show ([] : List DepotV).length ≤ 1048576 by simp)
        have LTripsOut := Lib.hid (show ([] : List Int).length ≤ 1048576 by simp)
        have LCarriesOut := Lib.hid (show ([] : List (Int × Int)).length ≤ 1048576 by simp)
        replace HDepotsOuti := Lib.hid HDepotsOuti
        replace HDepotsOuts := Lib.hid HDepotsOuts
        replace HDepotsBacki := Lib.hid HDepotsBacki
        replace HDepotsBacks := Lib.hid HDepotsBacks
        replace HTripsOuti := Lib.hid HTripsOuti
        replace HTripsOuts := Lib.hid HTripsOuts
        replace HCarriesOuti := Lib.hid HCarriesOuti
        replace HCarriesOuts := Lib.hid HCarriesOuts
        replace HDrivenOuti := Lib.hid HDrivenOuti
        replace HDrivenOuts := Lib.hid HDrivenOuts
        clear hn
        have bq0 : Below w.heap.size w w := Below.refl _ _
        go_wp2_with fail; refine (HDepotsOuti.out _).mono ?_; rintro e w1 ⟨vo1, rfl, o1, hb1⟩
        have f1 : Below w.heap.size w w1 := bstep (show Below w.heap.size w _ by (repeat (first | with_reducible exact Below.refl _ _ | with_reducible assumption | with_reducible refine balloc ?_ _ | with_reducible refine bdrew ?_ | with_reducible refine below_drewN ?_ _ | with_reducible refine bset ?_ ?_ _ | with_reducible exact Nat.le_refl _ | with_reducible refine bsize ?_ | (dsimp only; refine Nat.le_trans ?_ (Nat.le_add_right _ _)) | with_reducible refine Nat.le_trans ?_ (Nat.le_add_right _ _) | (with_reducible refine bstep ?_ (by assumption))))) hb1
        have bq1 := bstep bq0 f1
        clear hb1 f1 bq0
        go_wp2_with fail; refine (HDepotsOuts.out _).mono ?_; rintro e w2 ⟨vo2, rfl, o2, hb2⟩
        have f2 : Below w1.heap.size w1 w2 := bstep (show Below w1.heap.size w1 _ by (repeat (first | with_reducible exact Below.refl _ _ | with_reducible assumption | with_reducible refine balloc ?_ _ | with_reducible refine bdrew ?_ | with_reducible refine below_drewN ?_ _ | with_reducible refine bset ?_ ?_ _ | with_reducible exact Nat.le_refl _ | with_reducible refine bsize ?_ | (dsimp only; refine Nat.le_trans ?_ (Nat.le_add_right _ _)) | with_reducible refine Nat.le_trans ?_ (Nat.le_add_right _ _) | (with_reducible refine bstep ?_ (by assumption))))) hb2
        replace o1 := ownsRow_below o1 f2
        have bq2 := bstep bq1 f2
        clear hb2 f2 bq1
        go_wp2_with fail; refine (HDepotsBacki.out _).mono ?_; rintro e w3 ⟨vo3, rfl, o3, hb3⟩
        have f3 : Below w2.heap.size w2 w3 := bstep (show Below w2.heap.size w2 _ by (repeat (first | with_reducible exact Below.refl _ _ | with_reducible assumption | with_reducible refine balloc ?_ _ | with_reducible refine bdrew ?_ | with_reducible refine below_drewN ?_ _ | with_reducible refine bset ?_ ?_ _ | with_reducible exact Nat.le_refl _ | with_reducible refine bsize ?_ | (dsimp only; refine Nat.le_trans ?_ (Nat.le_add_right _ _)) | with_reducible refine Nat.le_trans ?_ (Nat.le_add_right _ _) | (with_reducible refine bstep ?_ (by assumption))))) hb3
        replace o1 := ownsRow_below o1 f3
        replace o2 := ownsRow_below o2 f3
        have bq3 := bstep bq2 f3
        clear hb3 f3 bq2
        go_wp2_with fail; refine (HDepotsBacks.out _).mono ?_; rintro e w4 ⟨vo4, rfl, o4, hb4⟩
        have f4 : Below w3.heap.size w3 w4 := bstep (show Below w3.heap.size w3 _ by (repeat (first | with_reducible exact Below.refl _ _ | with_reducible assumption | with_reducible refine balloc ?_ _ | with_reducible refine bdrew ?_ | with_reducible refine below_drewN ?_ _ | with_reducible refine bset ?_ ?_ _ | with_reducible exact Nat.le_refl _ | with_reducible refine bsize ?_ | (dsimp only; refine Nat.le_trans ?_ (Nat.le_add_right _ _)) | with_reducible refine Nat.le_trans ?_ (Nat.le_add_right _ _) | (with_reducible refine bstep ?_ (by assumption))))) hb4
        replace o1 := ownsRow_below o1 f4
        replace o2 := ownsRow_below o2 f4
        replace o3 := ownsRow_below o3 f4
        have bq4 := bstep bq3 f4
        clear hb4 f4 bq3
        go_wp2_with fail; refine (HTripsOuti.out _).mono ?_; rintro e w5 ⟨vo5, rfl, o5, hb5⟩
        have f5 : Below w4.heap.size w4 w5 := bstep (show Below w4.heap.size w4 _ by (repeat (first | with_reducible exact Below.refl _ _ | with_reducible assumption | with_reducible refine balloc ?_ _ | with_reducible refine bdrew ?_ | with_reducible refine below_drewN ?_ _ | with_reducible refine bset ?_ ?_ _ | with_reducible exact Nat.le_refl _ | with_reducible refine bsize ?_ | (dsimp only; refine Nat.le_trans ?_ (Nat.le_add_right _ _)) | with_reducible refine Nat.le_trans ?_ (Nat.le_add_right _ _) | (with_reducible refine bstep ?_ (by assumption))))) hb5
        replace o1 := ownsRow_below o1 f5
        replace o2 := ownsRow_below o2 f5
        replace o3 := ownsRow_below o3 f5
        replace o4 := ownsRow_below o4 f5
        have bq5 := bstep bq4 f5
        clear hb5 f5 bq4
        go_wp2_with fail; refine (HTripsOuts.out _).mono ?_; rintro e w6 ⟨vo6, rfl, o6, hb6⟩
        have f6 : Below w5.heap.size w5 w6 := bstep (show Below w5.heap.size w5 _ by (repeat (first | with_reducible exact Below.refl _ _ | with_reducible assumption | with_reducible refine balloc ?_ _ | with_reducible refine bdrew ?_ | with_reducible refine below_drewN ?_ _ | with_reducible refine bset ?_ ?_ _ | with_reducible exact Nat.le_refl _ | with_reducible refine bsize ?_ | (dsimp only; refine Nat.le_trans ?_ (Nat.le_add_right _ _)) | with_reducible refine Nat.le_trans ?_ (Nat.le_add_right _ _) | (with_reducible refine bstep ?_ (by assumption))))) hb6
        replace o1 := ownsRow_below o1 f6
        replace o2 := ownsRow_below o2 f6
        replace o3 := ownsRow_below o3 f6
        replace o4 := ownsRow_below o4 f6
        replace o5 := ownsRow_below o5 f6
        have bq6 := bstep bq5 f6
        clear hb6 f6 bq5
        go_wp2_with fail; refine (HCarriesOuti.out _).mono ?_; rintro e w7 ⟨vo7, rfl, o7, hb7⟩
        have f7 : Below w6.heap.size w6 w7 := bstep (show Below w6.heap.size w6 _ by (repeat (first | with_reducible exact Below.refl _ _ | with_reducible assumption | with_reducible refine balloc ?_ _ | with_reducible refine bdrew ?_ | with_reducible refine below_drewN ?_ _ | with_reducible refine bset ?_ ?_ _ | with_reducible exact Nat.le_refl _ | with_reducible refine bsize ?_ | (dsimp only; refine Nat.le_trans ?_ (Nat.le_add_right _ _)) | with_reducible refine Nat.le_trans ?_ (Nat.le_add_right _ _) | (with_reducible refine bstep ?_ (by assumption))))) hb7
        replace o1 := ownsRow_below o1 f7
        replace o2 := ownsRow_below o2 f7
        replace o3 := ownsRow_below o3 f7
        replace o4 := ownsRow_below o4 f7
        replace o5 := ownsRow_below o5 f7
        replace o6 := ownsRow_below o6 f7
        have bq7 := bstep bq6 f7
        clear hb7 f7 bq6
        go_wp2_with fail; refine (HCarriesOuts.out _).mono ?_; rintro e w8 ⟨vo8, rfl, o8, hb8⟩
        have f8 : Below w7.heap.size w7 w8 := bstep (show Below w7.heap.size w7 _ by (repeat (first | with_reducible exact Below.refl _ _ | with_reducible assumption | with_reducible refine balloc ?_ _ | with_reducible refine bdrew ?_ | with_reducible refine below_drewN ?_ _ | with_reducible refine bset ?_ ?_ _ | with_reducible exact Nat.le_refl _ | with_reducible refine bsize ?_ | (dsimp only; refine Nat.le_trans ?_ (Nat.le_add_right _ _)) | with_reducible refine Nat.le_trans ?_ (Nat.le_add_right _ _) | (with_reducible refine bstep ?_ (by assumption))))) hb8
        replace o1 := ownsRow_below o1 f8
        replace o2 := ownsRow_below o2 f8
        replace o3 := ownsRow_below o3 f8
        replace o4 := ownsRow_below o4 f8
        replace o5 := ownsRow_below o5 f8
        replace o6 := ownsRow_below o6 f8
        replace o7 := ownsRow_below o7 f8
        have bq8 := bstep bq7 f8
        clear hb8 f8 bq7
        go_wp2_with fail; refine (HDrivenOuti.out _).mono ?_; rintro e w9 ⟨rfl, hb9⟩
        have f9 : Below w8.heap.size w8 w9 := bstep (show Below w8.heap.size w8 _ by (repeat (first | with_reducible exact Below.refl _ _ | with_reducible assumption | with_reducible refine balloc ?_ _ | with_reducible refine bdrew ?_ | with_reducible refine below_drewN ?_ _ | with_reducible refine bset ?_ ?_ _ | with_reducible exact Nat.le_refl _ | with_reducible refine bsize ?_ | (dsimp only; refine Nat.le_trans ?_ (Nat.le_add_right _ _)) | with_reducible refine Nat.le_trans ?_ (Nat.le_add_right _ _) | (with_reducible refine bstep ?_ (by assumption))))) hb9
        replace o1 := ownsRow_below o1 f9
        replace o2 := ownsRow_below o2 f9
        replace o3 := ownsRow_below o3 f9
        replace o4 := ownsRow_below o4 f9
        replace o5 := ownsRow_below o5 f9
        replace o6 := ownsRow_below o6 f9
        replace o7 := ownsRow_below o7 f9
        replace o8 := ownsRow_below o8 f9
        have bq9 := bstep bq8 f9
        clear hb9 f9 bq8
        go_wp2_with fail; refine (HDrivenOuts.out _).mono ?_; rintro e w10 ⟨rfl, hb10⟩
        have f10 : Below w9.heap.size w9 w10 := bstep (show Below w9.heap.size w9 _ by (repeat (first | with_reducible exact Below.refl _ _ | with_reducible assumption | with_reducible refine balloc ?_ _ | with_reducible refine bdrew ?_ | with_reducible refine below_drewN ?_ _ | with_reducible refine bset ?_ ?_ _ | with_reducible exact Nat.le_refl _ | with_reducible refine bsize ?_ | (dsimp only; refine Nat.le_trans ?_ (Nat.le_add_right _ _)) | with_reducible refine Nat.le_trans ?_ (Nat.le_add_right _ _) | (with_reducible refine bstep ?_ (by assumption))))) hb10
        have da0 : w10.cell? ⟨w9.heap.size, 0, none⟩ = some (.int .i64 0) := (hb10.cell (p := ⟨w9.heap.size, 0, none⟩) (by first | (simp; done) | (simp; omega))).trans (by first | (simp [go_sem]; done) | (simp [go_sem, *]; done))
        have da1 : w10.cell? ⟨w9.heap.size, 1, none⟩ = some (.int .i64 0) := (hb10.cell (p := ⟨w9.heap.size, 1, none⟩) (by first | (simp; done) | (simp; omega))).trans (by first | (simp [go_sem]; done) | (simp [go_sem, *]; done))
        have daz : w9.heap.size < w10.heap.size := Nat.lt_of_lt_of_le (by first | (simp; done) | (simp; omega)) hb10.size
        replace o1 := ownsRow_below o1 f10
        replace o2 := ownsRow_below o2 f10
        replace o3 := ownsRow_below o3 f10
        replace o4 := ownsRow_below o4 f10
        replace o5 := ownsRow_below o5 f10
        replace o6 := ownsRow_below o6 f10
        replace o7 := ownsRow_below o7 f10
        replace o8 := ownsRow_below o8 f10
        have bq10 := bstep bq9 f10
        clear hb10 f10 bq9
        go_upto_region 14 with fail
        refine (fun (h : ∀ V, V = _ → Code.wp _ _ _ _ V) => h _ rfl) ?_
        intro w11 hV11
        have f11 : Below w10.heap.size w10 w11 := by rw [hV11]; (repeat (first | with_reducible exact Below.refl _ _ | with_reducible assumption | with_reducible refine balloc ?_ _ | with_reducible refine bdrew ?_ | with_reducible refine below_drewN ?_ _ | with_reducible refine bset ?_ ?_ _ | with_reducible exact Nat.le_refl _ | with_reducible refine bsize ?_ | (dsimp only; refine Nat.le_trans ?_ (Nat.le_add_right _ _)) | with_reducible refine Nat.le_trans ?_ (Nat.le_add_right _ _) | (with_reducible refine bstep ?_ (by assumption))))
        have db0 : w11.cell? ⟨w10.heap.size, 0, none⟩ = some (.int .i64 0) := by rw [hV11]; first | (simp [go_sem]; done) | (simp [go_sem, *]; done)
        have db1 : w11.cell? ⟨w10.heap.size, 1, none⟩ = some (.int .i64 0) := by rw [hV11]; first | (simp [go_sem]; done) | (simp [go_sem, *]; done)
        have dbz : w10.heap.size < w11.heap.size := by rw [hV11]; first | (simp; done) | (simp; omega)
        replace da0 := keepa f11 daz da0
        replace da1 := keepa f11 daz da1
        replace daz := Nat.lt_of_lt_of_le daz f11.size
        replace o1 := ownsRow_below o1 f11
        replace o2 := ownsRow_below o2 f11
        replace o3 := ownsRow_below o3 f11
        replace o4 := ownsRow_below o4 f11
        replace o5 := ownsRow_below o5 f11
        replace o6 := ownsRow_below o6 f11
        replace o7 := ownsRow_below o7 f11
        replace o8 := ownsRow_below o8 f11
        have bq11 := bstep bq10 f11
        clear hV11 f11 bq10
        go_wp2_with fail; refine (xDepots_same _ _ _ _ _ _ LDepotsOut.out o1 o2).mono ?_; rintro e w12 ⟨rfl, hb12⟩
        have f12 : Below w11.heap.size w11 w12 := bstep (show Below w11.heap.size w11 _ by (repeat (first | with_reducible exact Below.refl _ _ | with_reducible assumption | with_reducible refine balloc ?_ _ | with_reducible refine bdrew ?_ | with_reducible refine below_drewN ?_ _ | with_reducible refine bset ?_ ?_ _ | with_reducible exact Nat.le_refl _ | with_reducible refine bsize ?_ | (dsimp only; refine Nat.le_trans ?_ (Nat.le_add_right _ _)) | with_reducible refine Nat.le_trans ?_ (Nat.le_add_right _ _) | (with_reducible refine bstep ?_ (by assumption))))) hb12
        replace da0 := keepa f12 daz da0
        replace da1 := keepa f12 daz da1
        replace db0 := keepa f12 dbz db0
        replace db1 := keepa f12 dbz db1
        replace daz := Nat.lt_of_lt_of_le daz f12.size
        replace dbz := Nat.lt_of_lt_of_le dbz f12.size
        replace o1 := ownsRow_below o1 f12
        replace o2 := ownsRow_below o2 f12
        replace o3 := ownsRow_below o3 f12
        replace o4 := ownsRow_below o4 f12
        replace o5 := ownsRow_below o5 f12
        replace o6 := ownsRow_below o6 f12
        replace o7 := ownsRow_below o7 f12
        replace o8 := ownsRow_below o8 f12
        have bq12 := bstep bq11 f12
        clear hb12 f12 bq11
        go_wp2_with fail; refine (xDepots_same _ _ _ _ _ _ LDepotsBack.out o3 o4).mono ?_; rintro e w13 ⟨rfl, hb13⟩
        have f13 : Below w12.heap.size w12 w13 := bstep (show Below w12.heap.size w12 _ by (repeat (first | with_reducible exact Below.refl _ _ | with_reducible assumption | with_reducible refine balloc ?_ _ | with_reducible refine bdrew ?_ | with_reducible refine below_drewN ?_ _ | with_reducible refine bset ?_ ?_ _ | with_reducible exact Nat.le_refl _ | with_reducible refine bsize ?_ | (dsimp only; refine Nat.le_trans ?_ (Nat.le_add_right _ _)) | with_reducible refine Nat.le_trans ?_ (Nat.le_add_right _ _) | (with_reducible refine bstep ?_ (by assumption))))) hb13
        replace da0 := keepa f13 daz da0
        replace da1 := keepa f13 daz da1
        replace db0 := keepa f13 dbz db0
        replace db1 := keepa f13 dbz db1
        replace daz := Nat.lt_of_lt_of_le daz f13.size
        replace dbz := Nat.lt_of_lt_of_le dbz f13.size
        replace o1 := ownsRow_below o1 f13
        replace o2 := ownsRow_below o2 f13
        replace o3 := ownsRow_below o3 f13
        replace o4 := ownsRow_below o4 f13
        replace o5 := ownsRow_below o5 f13
        replace o6 := ownsRow_below o6 f13
        replace o7 := ownsRow_below o7 f13
        replace o8 := ownsRow_below o8 f13
        have bq13 := bstep bq12 f13
        clear hb13 f13 bq12
        go_wp2_with fail; refine (xSame_same _ _ _ _ _ _ LTripsOut.out o5 o6).mono ?_; rintro e w14 ⟨rfl, hb14⟩
        have f14 : Below w13.heap.size w13 w14 := bstep (show Below w13.heap.size w13 _ by (repeat (first | with_reducible exact Below.refl _ _ | with_reducible assumption | with_reducible refine balloc ?_ _ | with_reducible refine bdrew ?_ | with_reducible refine below_drewN ?_ _ | with_reducible refine bset ?_ ?_ _ | with_reducible exact Nat.le_refl _ | with_reducible refine bsize ?_ | (dsimp only; refine Nat.le_trans ?_ (Nat.le_add_right _ _)) | with_reducible refine Nat.le_trans ?_ (Nat.le_add_right _ _) | (with_reducible refine bstep ?_ (by assumption))))) hb14
        replace da0 := keepa f14 daz da0
        replace da1 := keepa f14 daz da1
        replace db0 := keepa f14 dbz db0
        replace db1 := keepa f14 dbz db1
        replace daz := Nat.lt_of_lt_of_le daz f14.size
        replace dbz := Nat.lt_of_lt_of_le dbz f14.size
        replace o1 := ownsRow_below o1 f14
        replace o2 := ownsRow_below o2 f14
        replace o3 := ownsRow_below o3 f14
        replace o4 := ownsRow_below o4 f14
        replace o5 := ownsRow_below o5 f14
        replace o6 := ownsRow_below o6 f14
        replace o7 := ownsRow_below o7 f14
        replace o8 := ownsRow_below o8 f14
        have bq14 := bstep bq13 f14
        clear hb14 f14 bq13
        go_wp2_with fail; refine (xAmounts_same _ _ _ _ _ _ LCarriesOut.out o7 o8).mono ?_; rintro e w15 ⟨rfl, hb15⟩
        have f15 : Below w14.heap.size w14 w15 := bstep (show Below w14.heap.size w14 _ by (repeat (first | with_reducible exact Below.refl _ _ | with_reducible assumption | with_reducible refine balloc ?_ _ | with_reducible refine bdrew ?_ | with_reducible refine below_drewN ?_ _ | with_reducible refine bset ?_ ?_ _ | with_reducible exact Nat.le_refl _ | with_reducible refine bsize ?_ | (dsimp only; refine Nat.le_trans ?_ (Nat.le_add_right _ _)) | with_reducible refine Nat.le_trans ?_ (Nat.le_add_right _ _) | (with_reducible refine bstep ?_ (by assumption))))) hb15
        replace da0 := keepa f15 daz da0
        replace da1 := keepa f15 daz da1
        replace db0 := keepa f15 dbz db0
        replace db1 := keepa f15 dbz db1
        replace daz := Nat.lt_of_lt_of_le daz f15.size
        replace dbz := Nat.lt_of_lt_of_le dbz f15.size
        replace o1 := ownsRow_below o1 f15
        replace o2 := ownsRow_below o2 f15
        replace o3 := ownsRow_below o3 f15
        replace o4 := ownsRow_below o4 f15
        replace o5 := ownsRow_below o5 f15
        replace o6 := ownsRow_below o6 f15
        replace o7 := ownsRow_below o7 f15
        replace o8 := ownsRow_below o8 f15
        have bq15 := bstep bq14 f15
        clear hb15 f15 bq14
        go_wp2
        go_ret
        exact ⟨rfl, bstep hbd (show Below w.heap.size w _ by (repeat (first | with_reducible exact Below.refl _ _ | with_reducible assumption | with_reducible refine balloc ?_ _ | with_reducible refine bdrew ?_ | with_reducible refine below_drewN ?_ _ | with_reducible refine bset ?_ ?_ _ | with_reducible exact Nat.le_refl _ | with_reducible refine bsize ?_ | (dsimp only; refine Nat.le_trans ?_ (Nat.le_add_right _ _)) | with_reducible refine Nat.le_trans ?_ (Nat.le_add_right _ _) | (with_reducible refine bstep ?_ (by assumption)))))⟩
    · simp only [tkOk, inB, decide_eq_true_eq] at hn
      by_cases h0 : n = 0
      · as_aux_lemma =>
          subst h0
          clear hx hn
          have HDepotsOuti := fun W => depotsOut_impl 0 (by omega) W
          rw [show dpL 1 0 = [] from List.eq_nil_of_length_eq_zero (by decide +kernel), show tkOk 0 = true by decide +kernel] at HDepotsOuti
          have HDepotsBacki := fun W => depotsBack_impl 0 (by omega) W
          rw [show dpL 2 0 = [] from List.eq_nil_of_length_eq_zero (by decide +kernel), show tkOk 0 = true by decide +kernel] at HDepotsBacki
          have HTripsOuti := fun W => tripsOut_impl 0 (by omega) W
          rw [show trL 0 = [] from List.eq_nil_of_length_eq_zero (by decide +kernel), show tkOk 0 = true by decide +kernel] at HTripsOuti
          have HCarriesOuti := fun W => carriesOut_impl 0 (by omega) W
          rw [show crL 0 = [] from List.eq_nil_of_length_eq_zero (by decide +kernel), show tkOk 0 = true by decide +kernel] at HCarriesOuti
          have HDrivenOuti := fun W => drivenOut_impl 0 W
          rw [show dvN 0 = 0 by decide +kernel, show dvD 0 = 1 by decide +kernel, show tkOk 0 = true by decide +kernel] at HDrivenOuti
          have HDepotsOuts := fun W => depotsOut_spec 0 (by omega) W
          rw [show dpL 1 0 = [] from List.eq_nil_of_length_eq_zero (by decide +kernel), show tkOk 0 = true by decide +kernel] at HDepotsOuts
          have HDepotsBacks := fun W => depotsBack_spec 0 (by omega) W
          rw [show dpL 2 0 = [] from List.eq_nil_of_length_eq_zero (by decide +kernel), show tkOk 0 = true by decide +kernel] at HDepotsBacks
          have HTripsOuts := fun W => tripsOut_spec 0 (by omega) W
          rw [show trL 0 = [] from List.eq_nil_of_length_eq_zero (by decide +kernel), show tkOk 0 = true by decide +kernel] at HTripsOuts
          have HCarriesOuts := fun W => carriesOut_spec 0 (by omega) W
          rw [show crL 0 = [] from List.eq_nil_of_length_eq_zero (by decide +kernel), show tkOk 0 = true by decide +kernel] at HCarriesOuts
          have HDrivenOuts := fun W => drivenOut_spec 0 W
          rw [show dvN 0 = 0 by decide +kernel, show dvD 0 = 1 by decide +kernel, show tkOk 0 = true by decide +kernel] at HDrivenOuts
          have LDepotsOut := Lib.hid (show ([] : List DepotV).length ≤ 1048576 by simp)
          have LDepotsBack := Lib.hid (show ([] : List DepotV).length ≤ 1048576 by simp)
          have LTripsOut := Lib.hid (show ([] : List Int).length ≤ 1048576 by simp)
          have LCarriesOut := Lib.hid (show ([] : List (Int × Int)).length ≤ 1048576 by simp)
          replace HDepotsOuti := Lib.hid HDepotsOuti
          replace HDepotsOuts := Lib.hid HDepotsOuts
          replace HDepotsBacki := Lib.hid HDepotsBacki
          replace HDepotsBacks := Lib.hid HDepotsBacks
          replace HTripsOuti := Lib.hid HTripsOuti
          replace HTripsOuts := Lib.hid HTripsOuts
          replace HCarriesOuti := Lib.hid HCarriesOuti
          replace HCarriesOuts := Lib.hid HCarriesOuts
          replace HDrivenOuti := Lib.hid HDrivenOuti
          replace HDrivenOuts := Lib.hid HDrivenOuts
          have HI := Lib.hid (is_con (n := 0) (d := 1) (p := 0) (q := 1) (by decide +kernel))
          have bq0 : Below w.heap.size w w := Below.refl _ _
          go_wp2_with fail; refine (HDepotsOuti.out _).mono ?_; rintro e w1 ⟨vo1, rfl, o1, hb1⟩
          have f1 : Below w.heap.size w w1 := bstep (show Below w.heap.size w _ by (repeat (first | with_reducible exact Below.refl _ _ | with_reducible assumption | with_reducible refine balloc ?_ _ | with_reducible refine bdrew ?_ | with_reducible refine below_drewN ?_ _ | with_reducible refine bset ?_ ?_ _ | with_reducible exact Nat.le_refl _ | with_reducible refine bsize ?_ | (dsimp only; refine Nat.le_trans ?_ (Nat.le_add_right _ _)) | with_reducible refine Nat.le_trans ?_ (Nat.le_add_right _ _) | (with_reducible refine bstep ?_ (by assumption))))) hb1
          have bq1 := bstep bq0 f1
          clear hb1 f1 bq0
          go_wp2_with fail; refine (HDepotsOuts.out _).mono ?_; rintro e w2 ⟨vo2, rfl, o2, hb2⟩
          have f2 : Below w1.heap.size w1 w2 := bstep (show Below w1.heap.size w1 _ by (repeat (first | with_reducible exact Below.refl _ _ | with_reducible assumption | with_reducible refine balloc ?_ _ | with_reducible refine bdrew ?_ | with_reducible refine below_drewN ?_ _ | with_reducible refine bset ?_ ?_ _ | with_reducible exact Nat.le_refl _ | with_reducible refine bsize ?_ | (dsimp only; refine Nat.le_trans ?_ (Nat.le_add_right _ _)) | with_reducible refine Nat.le_trans ?_ (Nat.le_add_right _ _) | (with_reducible refine bstep ?_ (by assumption))))) hb2
          replace o1 := ownsRow_below o1 f2
          have bq2 := bstep bq1 f2
          clear hb2 f2 bq1
          go_wp2_with fail; refine (HDepotsBacki.out _).mono ?_; rintro e w3 ⟨vo3, rfl, o3, hb3⟩
          have f3 : Below w2.heap.size w2 w3 := bstep (show Below w2.heap.size w2 _ by (repeat (first | with_reducible exact Below.refl _ _ | with_reducible assumption | with_reducible refine balloc ?_ _ | with_reducible refine bdrew ?_ | with_reducible refine below_drewN ?_ _ | with_reducible refine bset ?_ ?_ _ | with_reducible exact Nat.le_refl _ | with_reducible refine bsize ?_ | (dsimp only; refine Nat.le_trans ?_ (Nat.le_add_right _ _)) | with_reducible refine Nat.le_trans ?_ (Nat.le_add_right _ _) | (with_reducible refine bstep ?_ (by assumption))))) hb3
          replace o1 := ownsRow_below o1 f3
          replace o2 := ownsRow_below o2 f3
          have bq3 := bstep bq2 f3
          clear hb3 f3 bq2
          go_wp2_with fail; refine (HDepotsBacks.out _).mono ?_; rintro e w4 ⟨vo4, rfl, o4, hb4⟩
          have f4 : Below w3.heap.size w3 w4 := bstep (show Below w3.heap.size w3 _ by (repeat (first | with_reducible exact Below.refl _ _ | with_reducible assumption | with_reducible refine balloc ?_ _ | with_reducible refine bdrew ?_ | with_reducible refine below_drewN ?_ _ | with_reducible refine bset ?_ ?_ _ | with_reducible exact Nat.le_refl _ | with_reducible refine bsize ?_ | (dsimp only; refine Nat.le_trans ?_ (Nat.le_add_right _ _)) | with_reducible refine Nat.le_trans ?_ (Nat.le_add_right _ _) | (with_reducible refine bstep ?_ (by assumption))))) hb4
          replace o1 := ownsRow_below o1 f4
          replace o2 := ownsRow_below o2 f4
          replace o3 := ownsRow_below o3 f4
          have bq4 := bstep bq3 f4
          clear hb4 f4 bq3
          go_wp2_with fail; refine (HTripsOuti.out _).mono ?_; rintro e w5 ⟨vo5, rfl, o5, hb5⟩
          have f5 : Below w4.heap.size w4 w5 := bstep (show Below w4.heap.size w4 _ by (repeat (first | with_reducible exact Below.refl _ _ | with_reducible assumption | with_reducible refine balloc ?_ _ | with_reducible refine bdrew ?_ | with_reducible refine below_drewN ?_ _ | with_reducible refine bset ?_ ?_ _ | with_reducible exact Nat.le_refl _ | with_reducible refine bsize ?_ | (dsimp only; refine Nat.le_trans ?_ (Nat.le_add_right _ _)) | with_reducible refine Nat.le_trans ?_ (Nat.le_add_right _ _) | (with_reducible refine bstep ?_ (by assumption))))) hb5
          replace o1 := ownsRow_below o1 f5
          replace o2 := ownsRow_below o2 f5
          replace o3 := ownsRow_below o3 f5
          replace o4 := ownsRow_below o4 f5
          have bq5 := bstep bq4 f5
          clear hb5 f5 bq4
          go_wp2_with fail; refine (HTripsOuts.out _).mono ?_; rintro e w6 ⟨vo6, rfl, o6, hb6⟩
          have f6 : Below w5.heap.size w5 w6 := bstep (show Below w5.heap.size w5 _ by (repeat (first | with_reducible exact Below.refl _ _ | with_reducible assumption | with_reducible refine balloc ?_ _ | with_reducible refine bdrew ?_ | with_reducible refine below_drewN ?_ _ | with_reducible refine bset ?_ ?_ _ | with_reducible exact Nat.le_refl _ | with_reducible refine bsize ?_ | (dsimp only; refine Nat.le_trans ?_ (Nat.le_add_right _ _)) | with_reducible refine Nat.le_trans ?_ (Nat.le_add_right _ _) | (with_reducible refine bstep ?_ (by assumption))))) hb6
          replace o1 := ownsRow_below o1 f6
          replace o2 := ownsRow_below o2 f6
          replace o3 := ownsRow_below o3 f6
          replace o4 := ownsRow_below o4 f6
          replace o5 := ownsRow_below o5 f6
          have bq6 := bstep bq5 f6
          clear hb6 f6 bq5
          go_wp2_with fail; refine (HCarriesOuti.out _).mono ?_; rintro e w7 ⟨vo7, rfl, o7, hb7⟩
          have f7 : Below w6.heap.size w6 w7 := bstep (show Below w6.heap.size w6 _ by (repeat (first | with_reducible exact Below.refl _ _ | with_reducible assumption | with_reducible refine balloc ?_ _ | with_reducible refine bdrew ?_ | with_reducible refine below_drewN ?_ _ | with_reducible refine bset ?_ ?_ _ | with_reducible exact Nat.le_refl _ | with_reducible refine bsize ?_ | (dsimp only; refine Nat.le_trans ?_ (Nat.le_add_right _ _)) | with_reducible refine Nat.le_trans ?_ (Nat.le_add_right _ _) | (with_reducible refine bstep ?_ (by assumption))))) hb7
          replace o1 := ownsRow_below o1 f7
          replace o2 := ownsRow_below o2 f7
          replace o3 := ownsRow_below o3 f7
          replace o4 := ownsRow_below o4 f7
          replace o5 := ownsRow_below o5 f7
          replace o6 := ownsRow_below o6 f7
          have bq7 := bstep bq6 f7
          clear hb7 f7 bq6
          go_wp2_with fail; refine (HCarriesOuts.out _).mono ?_; rintro e w8 ⟨vo8, rfl, o8, hb8⟩
          have f8 : Below w7.heap.size w7 w8 := bstep (show Below w7.heap.size w7 _ by (repeat (first | with_reducible exact Below.refl _ _ | with_reducible assumption | with_reducible refine balloc ?_ _ | with_reducible refine bdrew ?_ | with_reducible refine below_drewN ?_ _ | with_reducible refine bset ?_ ?_ _ | with_reducible exact Nat.le_refl _ | with_reducible refine bsize ?_ | (dsimp only; refine Nat.le_trans ?_ (Nat.le_add_right _ _)) | with_reducible refine Nat.le_trans ?_ (Nat.le_add_right _ _) | (with_reducible refine bstep ?_ (by assumption))))) hb8
          replace o1 := ownsRow_below o1 f8
          replace o2 := ownsRow_below o2 f8
          replace o3 := ownsRow_below o3 f8
          replace o4 := ownsRow_below o4 f8
          replace o5 := ownsRow_below o5 f8
          replace o6 := ownsRow_below o6 f8
          replace o7 := ownsRow_below o7 f8
          have bq8 := bstep bq7 f8
          clear hb8 f8 bq7
          go_wp2_with fail; refine (HDrivenOuti.out _).mono ?_; rintro e w9 ⟨rfl, hb9⟩
          have f9 : Below w8.heap.size w8 w9 := bstep (show Below w8.heap.size w8 _ by (repeat (first | with_reducible exact Below.refl _ _ | with_reducible assumption | with_reducible refine balloc ?_ _ | with_reducible refine bdrew ?_ | with_reducible refine below_drewN ?_ _ | with_reducible refine bset ?_ ?_ _ | with_reducible exact Nat.le_refl _ | with_reducible refine bsize ?_ | (dsimp only; refine Nat.le_trans ?_ (Nat.le_add_right _ _)) | with_reducible refine Nat.le_trans ?_ (Nat.le_add_right _ _) | (with_reducible refine bstep ?_ (by assumption))))) hb9
          replace o1 := ownsRow_below o1 f9
          replace o2 := ownsRow_below o2 f9
          replace o3 := ownsRow_below o3 f9
          replace o4 := ownsRow_below o4 f9
          replace o5 := ownsRow_below o5 f9
          replace o6 := ownsRow_below o6 f9
          replace o7 := ownsRow_below o7 f9
          replace o8 := ownsRow_below o8 f9
          have bq9 := bstep bq8 f9
          clear hb9 f9 bq8
          go_wp2_with fail; refine (HDrivenOuts.out _).mono ?_; rintro e w10 ⟨rfl, hb10⟩
          have f10 : Below w9.heap.size w9 w10 := bstep (show Below w9.heap.size w9 _ by (repeat (first | with_reducible exact Below.refl _ _ | with_reducible assumption | with_reducible refine balloc ?_ _ | with_reducible refine bdrew ?_ | with_reducible refine below_drewN ?_ _ | with_reducible refine bset ?_ ?_ _ | with_reducible exact Nat.le_refl _ | with_reducible refine bsize ?_ | (dsimp only; refine Nat.le_trans ?_ (Nat.le_add_right _ _)) | with_reducible refine Nat.le_trans ?_ (Nat.le_add_right _ _) | (with_reducible refine bstep ?_ (by assumption))))) hb10
          have da0 : w10.cell? ⟨w9.heap.size, 0, none⟩ = some (.int .i64 0) := (hb10.cell (p := ⟨w9.heap.size, 0, none⟩) (by first | (simp; done) | (simp; omega))).trans (by first | (simp [go_sem]; done) | (simp [go_sem, *]; done))
          have da1 : w10.cell? ⟨w9.heap.size, 1, none⟩ = some (.int .i64 1) := (hb10.cell (p := ⟨w9.heap.size, 1, none⟩) (by first | (simp; done) | (simp; omega))).trans (by first | (simp [go_sem]; done) | (simp [go_sem, *]; done))
          have daz : w9.heap.size < w10.heap.size := Nat.lt_of_lt_of_le (by first | (simp; done) | (simp; omega)) hb10.size
          replace o1 := ownsRow_below o1 f10
          replace o2 := ownsRow_below o2 f10
          replace o3 := ownsRow_below o3 f10
          replace o4 := ownsRow_below o4 f10
          replace o5 := ownsRow_below o5 f10
          replace o6 := ownsRow_below o6 f10
          replace o7 := ownsRow_below o7 f10
          replace o8 := ownsRow_below o8 f10
          have bq10 := bstep bq9 f10
          clear hb10 f10 bq9
          go_upto_region 14 with fail
          refine (fun (h : ∀ V, V = _ → Code.wp _ _ _ _ V) => h _ rfl) ?_
          intro w11 hV11
          have f11 : Below w10.heap.size w10 w11 := by rw [hV11]; (repeat (first | with_reducible exact Below.refl _ _ | with_reducible assumption | with_reducible refine balloc ?_ _ | with_reducible refine bdrew ?_ | with_reducible refine below_drewN ?_ _ | with_reducible refine bset ?_ ?_ _ | with_reducible exact Nat.le_refl _ | with_reducible refine bsize ?_ | (dsimp only; refine Nat.le_trans ?_ (Nat.le_add_right _ _)) | with_reducible refine Nat.le_trans ?_ (Nat.le_add_right _ _) | (with_reducible refine bstep ?_ (by assumption))))
          have db0 : w11.cell? ⟨w10.heap.size, 0, none⟩ = some (.int .i64 0) := by rw [hV11]; first | (simp [go_sem]; done) | (simp [go_sem, *]; done)
          have db1 : w11.cell? ⟨w10.heap.size, 1, none⟩ = some (.int .i64 1) := by rw [hV11]; first | (simp [go_sem]; done) | (simp [go_sem, *]; done)
          have dbz : w10.heap.size < w11.heap.size := by rw [hV11]; first | (simp; done) | (simp; omega)
          replace da0 := keepa f11 daz da0
          replace da1 := keepa f11 daz da1
          replace daz := Nat.lt_of_lt_of_le daz f11.size
          replace o1 := ownsRow_below o1 f11
          replace o2 := ownsRow_below o2 f11
          replace o3 := ownsRow_below o3 f11
          replace o4 := ownsRow_below o4 f11
          replace o5 := ownsRow_below o5 f11
          replace o6 := ownsRow_below o6 f11
          replace o7 := ownsRow_below o7 f11
          replace o8 := ownsRow_below o8 f11
          have bq11 := bstep bq10 f11
          clear hV11 f11 bq10
          go_wp2_with fail; refine (xDepots_same _ _ _ _ _ _ LDepotsOut.out o1 o2).mono ?_; rintro e w12 ⟨rfl, hb12⟩
          have f12 : Below w11.heap.size w11 w12 := bstep (show Below w11.heap.size w11 _ by (repeat (first | with_reducible exact Below.refl _ _ | with_reducible assumption | with_reducible refine balloc ?_ _ | with_reducible refine bdrew ?_ | with_reducible refine below_drewN ?_ _ | with_reducible refine bset ?_ ?_ _ | with_reducible exact Nat.le_refl _ | with_reducible refine bsize ?_ | (dsimp only; refine Nat.le_trans ?_ (Nat.le_add_right _ _)) | with_reducible refine Nat.le_trans ?_ (Nat.le_add_right _ _) | (with_reducible refine bstep ?_ (by assumption))))) hb12
          replace da0 := keepa f12 daz da0
          replace da1 := keepa f12 daz da1
          replace db0 := keepa f12 dbz db0
          replace db1 := keepa f12 dbz db1
          replace daz := Nat.lt_of_lt_of_le daz f12.size
          replace dbz := Nat.lt_of_lt_of_le dbz f12.size
          replace o1 := ownsRow_below o1 f12
          replace o2 := ownsRow_below o2 f12
          replace o3 := ownsRow_below o3 f12
          replace o4 := ownsRow_below o4 f12
          replace o5 := ownsRow_below o5 f12
          replace o6 := ownsRow_below o6 f12
          replace o7 := ownsRow_below o7 f12
          replace o8 := ownsRow_below o8 f12
          have bq12 := bstep bq11 f12
          clear hb12 f12 bq11
          go_wp2_with fail; refine (xDepots_same _ _ _ _ _ _ LDepotsBack.out o3 o4).mono ?_; rintro e w13 ⟨rfl, hb13⟩
          have f13 : Below w12.heap.size w12 w13 := bstep (show Below w12.heap.size w12 _ by (repeat (first | with_reducible exact Below.refl _ _ | with_reducible assumption | with_reducible refine balloc ?_ _ | with_reducible refine bdrew ?_ | with_reducible refine below_drewN ?_ _ | with_reducible refine bset ?_ ?_ _ | with_reducible exact Nat.le_refl _ | with_reducible refine bsize ?_ | (dsimp only; refine Nat.le_trans ?_ (Nat.le_add_right _ _)) | with_reducible refine Nat.le_trans ?_ (Nat.le_add_right _ _) | (with_reducible refine bstep ?_ (by assumption))))) hb13
          replace da0 := keepa f13 daz da0
          replace da1 := keepa f13 daz da1
          replace db0 := keepa f13 dbz db0
          replace db1 := keepa f13 dbz db1
          replace daz := Nat.lt_of_lt_of_le daz f13.size
          replace dbz := Nat.lt_of_lt_of_le dbz f13.size
          replace o1 := ownsRow_below o1 f13
          replace o2 := ownsRow_below o2 f13
          replace o3 := ownsRow_below o3 f13
          replace o4 := ownsRow_below o4 f13
          replace o5 := ownsRow_below o5 f13
          replace o6 := ownsRow_below o6 f13
          replace o7 := ownsRow_below o7 f13
          replace o8 := ownsRow_below o8 f13
          have bq13 := bstep bq12 f13
          clear hb13 f13 bq12
          go_wp2_with fail; refine (xSame_same _ _ _ _ _ _ LTripsOut.out o5 o6).mono ?_; rintro e w14 ⟨rfl, hb14⟩
          have f14 : Below w13.heap.size w13 w14 := bstep (show Below w13.heap.size w13 _ by (repeat (first | with_reducible exact Below.refl _ _ | with_reducible assumption | with_reducible refine balloc ?_ _ | with_reducible refine bdrew ?_ | with_reducible refine below_drewN ?_ _ | with_reducible refine bset ?_ ?_ _ | with_reducible exact Nat.le_refl _ | with_reducible refine bsize ?_ | (dsimp only; refine Nat.le_trans ?_ (Nat.le_add_right _ _)) | with_reducible refine Nat.le_trans ?_ (Nat.le_add_right _ _) | (with_reducible refine bstep ?_ (by assumption))))) hb14
          replace da0 := keepa f14 daz da0
          replace da1 := keepa f14 daz da1
          replace db0 := keepa f14 dbz db0
          replace db1 := keepa f14 dbz db1
          replace daz := Nat.lt_of_lt_of_le daz f14.size
          replace dbz := Nat.lt_of_lt_of_le dbz f14.size
          replace o1 := ownsRow_below o1 f14
          replace o2 := ownsRow_below o2 f14
          replace o3 := ownsRow_below o3 f14
          replace o4 := ownsRow_below o4 f14
          replace o5 := ownsRow_below o5 f14
          replace o6 := ownsRow_below o6 f14
          replace o7 := ownsRow_below o7 f14
          replace o8 := ownsRow_below o8 f14
          have bq14 := bstep bq13 f14
          clear hb14 f14 bq13
          go_wp2_with fail; refine (xAmounts_same _ _ _ _ _ _ LCarriesOut.out o7 o8).mono ?_; rintro e w15 ⟨rfl, hb15⟩
          have f15 : Below w14.heap.size w14 w15 := bstep (show Below w14.heap.size w14 _ by (repeat (first | with_reducible exact Below.refl _ _ | with_reducible assumption | with_reducible refine balloc ?_ _ | with_reducible refine bdrew ?_ | with_reducible refine below_drewN ?_ _ | with_reducible refine bset ?_ ?_ _ | with_reducible exact Nat.le_refl _ | with_reducible refine bsize ?_ | (dsimp only; refine Nat.le_trans ?_ (Nat.le_add_right _ _)) | with_reducible refine Nat.le_trans ?_ (Nat.le_add_right _ _) | (with_reducible refine bstep ?_ (by assumption))))) hb15
          replace da0 := keepa f15 daz da0
          replace da1 := keepa f15 daz da1
          replace db0 := keepa f15 dbz db0
          replace db1 := keepa f15 dbz db1
          replace daz := Nat.lt_of_lt_of_le daz f15.size
          replace dbz := Nat.lt_of_lt_of_le dbz f15.size
          replace o1 := ownsRow_below o1 f15
          replace o2 := ownsRow_below o2 f15
          replace o3 := ownsRow_below o3 f15
          replace o4 := ownsRow_below o4 f15
          replace o5 := ownsRow_below o5 f15
          replace o6 := ownsRow_below o6 f15
          replace o7 := ownsRow_below o7 f15
          replace o8 := ownsRow_below o8 f15
          have bq15 := bstep bq14 f15
          clear hb15 f15 bq14
          obtain ⟨ao1, ko1, rfl⟩ := owns_shape o1
          obtain ⟨ao3, ko3, rfl⟩ := owns_shape o3
          obtain ⟨ao5, ko5, rfl⟩ := owns_shape o5
          obtain ⟨ao7, ko7, rfl⟩ := owns_shape o7
          go_wp2_with fail; refine (HI.out _).mono ?_; rintro e w16 ⟨rfl, hb16⟩
          have f16 : Below w15.heap.size w15 w16 := bstep (show Below w15.heap.size w15 _ by (repeat (first | with_reducible exact Below.refl _ _ | with_reducible assumption | with_reducible refine balloc ?_ _ | with_reducible refine bdrew ?_ | with_reducible refine below_drewN ?_ _ | with_reducible refine bset ?_ ?_ _ | with_reducible exact Nat.le_refl _ | with_reducible refine bsize ?_ | (dsimp only; refine Nat.le_trans ?_ (Nat.le_add_right _ _)) | with_reducible refine Nat.le_trans ?_ (Nat.le_add_right _ _) | (with_reducible refine bstep ?_ (by assumption))))) hb16
          replace da0 := keepa f16 daz da0
          replace da1 := keepa f16 daz da1
          replace db0 := keepa f16 dbz db0
          replace db1 := keepa f16 dbz db1
          replace daz := Nat.lt_of_lt_of_le daz f16.size
          replace dbz := Nat.lt_of_lt_of_le dbz f16.size
          have bq16 := bstep bq15 f16
          clear hb16 f16 bq15
          clear da0 da1 daz db0 db1 dbz
          go_upto_region 24 with fail
          refine (fun (h : ∀ V, V = _ → Code.wp _ _ _ _ V) => h _ rfl) ?_
          intro w17 hV17
          have f17 : Below w16.heap.size w16 w17 := by rw [hV17]; (repeat (first | with_reducible exact Below.refl _ _ | with_reducible assumption | with_reducible refine balloc ?_ _ | with_reducible refine bdrew ?_ | with_reducible refine below_drewN ?_ _ | with_reducible refine bset ?_ ?_ _ | with_reducible exact Nat.le_refl _ | with_reducible refine bsize ?_ | (dsimp only; refine Nat.le_trans ?_ (Nat.le_add_right _ _)) | with_reducible refine Nat.le_trans ?_ (Nat.le_add_right _ _) | (with_reducible refine bstep ?_ (by assumption))))
          have at0 : w17.cell? ⟨w16.heap.size, 0, none⟩ = some (.int .i64 0) := by rw [hV17]; first | (simp [go_sem]; done) | (simp [go_sem, *]; done)
          have at1 : w17.cell? ⟨w16.heap.size, 1, none⟩ = some (.int .i64 1) := by rw [hV17]; first | (simp [go_sem]; done) | (simp [go_sem, *]; done)
          have atz : w16.heap.size < w17.heap.size := by rw [hV17]; first | (simp; done) | (simp; omega)
          have ho0 : w17.cell? ⟨w16.heap.size + 1, 0, none⟩ = some (.int .i64 0) := by rw [hV17]; first | (simp [go_sem]; done) | (simp [go_sem, *]; done)
          have ho1 : w17.cell? ⟨w16.heap.size + 1, 1, none⟩ = some (.int .i64 1) := by rw [hV17]; first | (simp [go_sem]; done) | (simp [go_sem, *]; done)
          have hoz : w16.heap.size + 1 < w17.heap.size := by rw [hV17]; first | (simp; done) | (simp; omega)
          have bq17 := bstep bq16 f17
          clear hV17 f17 bq16
          go_wp2
          go_loopw [210] (fun c wr => c = .int .i64 0 ∧ w17 = wr) (fun _ _ => 0)
          case atStart => exact ⟨rfl, rfl⟩
          case round =>
            obtain ⟨rfl, rfl⟩ := hrel
            go_wp2
            go_ret
            exact ⟨rfl, bstep hbd (show Below w.heap.size w _ by (repeat (first | with_reducible exact Below.refl _ _ | with_reducible assumption | with_reducible refine balloc ?_ _ | with_reducible refine bdrew ?_ | with_reducible refine below_drewN ?_ _ | with_reducible refine bset ?_ ?_ _ | with_reducible exact Nat.le_refl _ | with_reducible refine bsize ?_ | (dsimp only; refine Nat.le_trans ?_ (Nat.le_add_right _ _)) | with_reducible refine Nat.le_trans ?_ (Nat.le_add_right _ _) | (with_reducible refine bstep ?_ (by assumption)))))⟩
      · by_cases h1 : n = 1
        · as_aux_lemma =>
            subst h1
            clear hx hn h0
            have HDepotsOuti := fun W => depotsOut_impl 1 (by omega) W
            rw [show dpL 1 1 = [] from List.eq_nil_of_length_eq_zero (by decide +kernel), show tkOk 1 = true by decide +kernel] at HDepotsOuti
            have HDepotsBacki := fun W => depotsBack_impl 1 (by omega) W
            rw [show dpL 2 1 = [] from List.eq_nil_of_length_eq_zero (by decide +kernel), show tkOk 1 = true by decide +kernel] at HDepotsBacki
            have HTripsOuti := fun W => tripsOut_impl 1 (by omega) W
            rw [show trL 1 = [] from List.eq_nil_of_length_eq_zero (by decide +kernel), show tkOk 1 = true by decide +kernel] at HTripsOuti
            have HCarriesOuti := fun W => carriesOut_impl 1 (by omega) W
            rw [show crL 1 = [] from List.eq_nil_of_length_eq_zero (by decide +kernel), show tkOk 1 = true by decide +kernel] at HCarriesOuti
            have HDrivenOuti := fun W => drivenOut_impl 1 W
            rw [show dvN 1 = 1 by decide +kernel, show dvD 1 = 1 by decide +kernel, show tkOk 1 = true by decide +kernel] at HDrivenOuti
            have HDepotsOuts := fun W => depotsOut_spec 1 (by omega) W
            rw [show dpL 1 1 = [] from List.eq_nil_of_length_eq_zero (by decide +kernel), show tkOk 1 = true by decide +kernel] at HDepotsOuts
            have HDepotsBacks := fun W => depotsBack_spec 1 (by omega) W
            rw [show dpL 2 1 = [] from List.eq_nil_of_length_eq_zero (by decide +kernel), show tkOk 1 = true by decide +kernel] at HDepotsBacks
            have HTripsOuts := fun W => tripsOut_spec 1 (by omega) W
            rw [show trL 1 = [] from List.eq_nil_of_length_eq_zero (by decide +kernel), show tkOk 1 = true by decide +kernel] at HTripsOuts
            have HCarriesOuts := fun W => carriesOut_spec 1 (by omega) W
            rw [show crL 1 = [] from List.eq_nil_of_length_eq_zero (by decide +kernel), show tkOk 1 = true by decide +kernel] at HCarriesOuts
            have HDrivenOuts := fun W => drivenOut_spec 1 W
            rw [show dvN 1 = 1 by decide +kernel, show dvD 1 = 1 by decide +kernel, show tkOk 1 = true by decide +kernel] at HDrivenOuts
            have LDepotsOut := Lib.hid (show ([] : List DepotV).length ≤ 1048576 by simp)
            have LDepotsBack := Lib.hid (show ([] : List DepotV).length ≤ 1048576 by simp)
            have LTripsOut := Lib.hid (show ([] : List Int).length ≤ 1048576 by simp)
            have LCarriesOut := Lib.hid (show ([] : List (Int × Int)).length ≤ 1048576 by simp)
            replace HDepotsOuti := Lib.hid HDepotsOuti
            replace HDepotsOuts := Lib.hid HDepotsOuts
            replace HDepotsBacki := Lib.hid HDepotsBacki
            replace HDepotsBacks := Lib.hid HDepotsBacks
            replace HTripsOuti := Lib.hid HTripsOuti
            replace HTripsOuts := Lib.hid HTripsOuts
            replace HCarriesOuti := Lib.hid HCarriesOuti
            replace HCarriesOuts := Lib.hid HCarriesOuts
            replace HDrivenOuti := Lib.hid HDrivenOuti
            replace HDrivenOuts := Lib.hid HDrivenOuts
            have HI := Lib.hid (is_con (n := 1) (d := 1) (p := 1) (q := 1) (by decide +kernel))
            have HF := fun W => fwOut_impl 1 1 (by omega) (by omega) W
            rw [show fwX 1 1 1 = 1 by decide +kernel, show fwY 1 1 1 = 1 by decide +kernel, show fwB 1 1 1 = true by decide +kernel] at HF
            replace HF := Lib.hid HF
            have HA := fun W => add_con (n := 0) (d := 1) (p := 1) (q := 1) (by decide +kernel) W
            rw [show addR 0 1 1 1 = (1, 1) by decide +kernel] at HA
            replace HA := Lib.hid HA
            have bq0 : Below w.heap.size w w := Below.refl _ _
            go_wp2_with fail; refine (HDepotsOuti.out _).mono ?_; rintro e w1 ⟨vo1, rfl, o1, hb1⟩
            have f1 : Below w.heap.size w w1 := bstep (show Below w.heap.size w _ by (repeat (first | with_reducible exact Below.refl _ _ | with_reducible assumption | with_reducible refine balloc ?_ _ | with_reducible refine bdrew ?_ | with_reducible refine below_drewN ?_ _ | with_reducible refine bset ?_ ?_ _ | with_reducible exact Nat.le_refl _ | with_reducible refine bsize ?_ | (dsimp only; refine Nat.le_trans ?_ (Nat.le_add_right _ _)) | with_reducible refine Nat.le_trans ?_ (Nat.le_add_right _ _) | (with_reducible refine bstep ?_ (by assumption))))) hb1
            have bq1 := bstep bq0 f1
            clear hb1 f1 bq0
            go_wp2_with fail; refine (HDepotsOuts.out _).mono ?_; rintro e w2 ⟨vo2, rfl, o2, hb2⟩
            have f2 : Below w1.heap.size w1 w2 := bstep (show Below w1.heap.size w1 _ by (repeat (first | with_reducible exact Below.refl _ _ | with_reducible assumption | with_reducible refine balloc ?_ _ | with_reducible refine bdrew ?_ | with_reducible refine below_drewN ?_ _ | with_reducible refine bset ?_ ?_ _ | with_reducible exact Nat.le_refl _ | with_reducible refine bsize ?_ | (dsimp only; refine Nat.le_trans ?_ (Nat.le_add_right _ _)) | with_reducible refine Nat.le_trans ?_ (Nat.le_add_right _ _) | (with_reducible refine bstep ?_ (by assumption))))) hb2
            replace o1 := ownsRow_below o1 f2
            have bq2 := bstep bq1 f2
            clear hb2 f2 bq1
            go_wp2_with fail; refine (HDepotsBacki.out _).mono ?_; rintro e w3 ⟨vo3, rfl, o3, hb3⟩
            have f3 : Below w2.heap.size w2 w3 := bstep (show Below w2.heap.size w2 _ by (repeat (first | with_reducible exact Below.refl _ _ | with_reducible assumption | with_reducible refine balloc ?_ _ | with_reducible refine bdrew ?_ | with_reducible refine below_drewN ?_ _ | with_reducible refine bset ?_ ?_ _ | with_reducible exact Nat.le_refl _ | with_reducible refine bsize ?_ | (dsimp only; refine Nat.le_trans ?_ (Nat.le_add_right _ _)) | with_reducible refine Nat.le_trans ?_ (Nat.le_add_right _ _) | (with_reducible refine bstep ?_ (by assumption))))) hb3
            replace o1 := ownsRow_below o1 f3
            replace o2 := ownsRow_below o2 f3
            have bq3 := bstep bq2 f3
            clear hb3 f3 bq2
            go_wp2_with fail; refine (HDepotsBacks.out _).mono ?_; rintro e w4 ⟨vo4, rfl, o4, hb4⟩
            have f4 : Below w3.heap.size w3 w4 := bstep (show Below w3.heap.size w3 _ by (repeat (first | with_reducible exact Below.refl _ _ | with_reducible assumption | with_reducible refine balloc ?_ _ | with_reducible refine bdrew ?_ | with_reducible refine below_drewN ?_ _ | with_reducible refine bset ?_ ?_ _ | with_reducible exact Nat.le_refl _ | with_reducible refine bsize ?_ | (dsimp only; refine Nat.le_trans ?_ (Nat.le_add_right _ _)) | with_reducible refine Nat.le_trans ?_ (Nat.le_add_right _ _) | (with_reducible refine bstep ?_ (by assumption))))) hb4
            replace o1 := ownsRow_below o1 f4
            replace o2 := ownsRow_below o2 f4
            replace o3 := ownsRow_below o3 f4
            have bq4 := bstep bq3 f4
            clear hb4 f4 bq3
            go_wp2_with fail; refine (HTripsOuti.out _).mono ?_; rintro e w5 ⟨vo5, rfl, o5, hb5⟩
            have f5 : Below w4.heap.size w4 w5 := bstep (show Below w4.heap.size w4 _ by (repeat (first | with_reducible exact Below.refl _ _ | with_reducible assumption | with_reducible refine balloc ?_ _ | with_reducible refine bdrew ?_ | with_reducible refine below_drewN ?_ _ | with_reducible refine bset ?_ ?_ _ | with_reducible exact Nat.le_refl _ | with_reducible refine bsize ?_ | (dsimp only; refine Nat.le_trans ?_ (Nat.le_add_right _ _)) | with_reducible refine Nat.le_trans ?_ (Nat.le_add_right _ _) | (with_reducible refine bstep ?_ (by assumption))))) hb5
            replace o1 := ownsRow_below o1 f5
            replace o2 := ownsRow_below o2 f5
            replace o3 := ownsRow_below o3 f5
            replace o4 := ownsRow_below o4 f5
            have bq5 := bstep bq4 f5
            clear hb5 f5 bq4
            go_wp2_with fail; refine (HTripsOuts.out _).mono ?_; rintro e w6 ⟨vo6, rfl, o6, hb6⟩
            have f6 : Below w5.heap.size w5 w6 := bstep (show Below w5.heap.size w5 _ by (repeat (first | with_reducible exact Below.refl _ _ | with_reducible assumption | with_reducible refine balloc ?_ _ | with_reducible refine bdrew ?_ | with_reducible refine below_drewN ?_ _ | with_reducible refine bset ?_ ?_ _ | with_reducible exact Nat.le_refl _ | with_reducible refine bsize ?_ | (dsimp only; refine Nat.le_trans ?_ (Nat.le_add_right _ _)) | with_reducible refine Nat.le_trans ?_ (Nat.le_add_right _ _) | (with_reducible refine bstep ?_ (by assumption))))) hb6
            replace o1 := ownsRow_below o1 f6
            replace o2 := ownsRow_below o2 f6
            replace o3 := ownsRow_below o3 f6
            replace o4 := ownsRow_below o4 f6
            replace o5 := ownsRow_below o5 f6
            have bq6 := bstep bq5 f6
            clear hb6 f6 bq5
            go_wp2_with fail; refine (HCarriesOuti.out _).mono ?_; rintro e w7 ⟨vo7, rfl, o7, hb7⟩
            have f7 : Below w6.heap.size w6 w7 := bstep (show Below w6.heap.size w6 _ by (repeat (first | with_reducible exact Below.refl _ _ | with_reducible assumption | with_reducible refine balloc ?_ _ | with_reducible refine bdrew ?_ | with_reducible refine below_drewN ?_ _ | with_reducible refine bset ?_ ?_ _ | with_reducible exact Nat.le_refl _ | with_reducible refine bsize ?_ | (dsimp only; refine Nat.le_trans ?_ (Nat.le_add_right _ _)) | with_reducible refine Nat.le_trans ?_ (Nat.le_add_right _ _) | (with_reducible refine bstep ?_ (by assumption))))) hb7
            replace o1 := ownsRow_below o1 f7
            replace o2 := ownsRow_below o2 f7
            replace o3 := ownsRow_below o3 f7
            replace o4 := ownsRow_below o4 f7
            replace o5 := ownsRow_below o5 f7
            replace o6 := ownsRow_below o6 f7
            have bq7 := bstep bq6 f7
            clear hb7 f7 bq6
            go_wp2_with fail; refine (HCarriesOuts.out _).mono ?_; rintro e w8 ⟨vo8, rfl, o8, hb8⟩
            have f8 : Below w7.heap.size w7 w8 := bstep (show Below w7.heap.size w7 _ by (repeat (first | with_reducible exact Below.refl _ _ | with_reducible assumption | with_reducible refine balloc ?_ _ | with_reducible refine bdrew ?_ | with_reducible refine below_drewN ?_ _ | with_reducible refine bset ?_ ?_ _ | with_reducible exact Nat.le_refl _ | with_reducible refine bsize ?_ | (dsimp only; refine Nat.le_trans ?_ (Nat.le_add_right _ _)) | with_reducible refine Nat.le_trans ?_ (Nat.le_add_right _ _) | (with_reducible refine bstep ?_ (by assumption))))) hb8
            replace o1 := ownsRow_below o1 f8
            replace o2 := ownsRow_below o2 f8
            replace o3 := ownsRow_below o3 f8
            replace o4 := ownsRow_below o4 f8
            replace o5 := ownsRow_below o5 f8
            replace o6 := ownsRow_below o6 f8
            replace o7 := ownsRow_below o7 f8
            have bq8 := bstep bq7 f8
            clear hb8 f8 bq7
            go_wp2_with fail; refine (HDrivenOuti.out _).mono ?_; rintro e w9 ⟨rfl, hb9⟩
            have f9 : Below w8.heap.size w8 w9 := bstep (show Below w8.heap.size w8 _ by (repeat (first | with_reducible exact Below.refl _ _ | with_reducible assumption | with_reducible refine balloc ?_ _ | with_reducible refine bdrew ?_ | with_reducible refine below_drewN ?_ _ | with_reducible refine bset ?_ ?_ _ | with_reducible exact Nat.le_refl _ | with_reducible refine bsize ?_ | (dsimp only; refine Nat.le_trans ?_ (Nat.le_add_right _ _)) | with_reducible refine Nat.le_trans ?_ (Nat.le_add_right _ _) | (with_reducible refine bstep ?_ (by assumption))))) hb9
            replace o1 := ownsRow_below o1 f9
            replace o2 := ownsRow_below o2 f9
            replace o3 := ownsRow_below o3 f9
            replace o4 := ownsRow_below o4 f9
            replace o5 := ownsRow_below o5 f9
            replace o6 := ownsRow_below o6 f9
            replace o7 := ownsRow_below o7 f9
            replace o8 := ownsRow_below o8 f9
            have bq9 := bstep bq8 f9
            clear hb9 f9 bq8
            go_wp2_with fail; refine (HDrivenOuts.out _).mono ?_; rintro e w10 ⟨rfl, hb10⟩
            have f10 : Below w9.heap.size w9 w10 := bstep (show Below w9.heap.size w9 _ by (repeat (first | with_reducible exact Below.refl _ _ | with_reducible assumption | with_reducible refine balloc ?_ _ | with_reducible refine bdrew ?_ | with_reducible refine below_drewN ?_ _ | with_reducible refine bset ?_ ?_ _ | with_reducible exact Nat.le_refl _ | with_reducible refine bsize ?_ | (dsimp only; refine Nat.le_trans ?_ (Nat.le_add_right _ _)) | with_reducible refine Nat.le_trans ?_ (Nat.le_add_right _ _) | (with_reducible refine bstep ?_ (by assumption))))) hb10
            have da0 : w10.cell? ⟨w9.heap.size, 0, none⟩ = some (.int .i64 1) := (hb10.cell (p := ⟨w9.heap.size, 0, none⟩) (by first | (simp; done) | (simp; omega))).trans (by first | (simp [go_sem]; done) | (simp [go_sem, *]; done))
            have da1 : w10.cell? ⟨w9.heap.size, 1, none⟩ = some (.int .i64 1) := (hb10.cell (p := ⟨w9.heap.size, 1, none⟩) (by first | (simp; done) | (simp; omega))).trans (by first | (simp [go_sem]; done) | (simp [go_sem, *]; done))
            have daz : w9.heap.size < w10.heap.size := Nat.lt_of_lt_of_le (by first | (simp; done) | (simp; omega)) hb10.size
            replace o1 := ownsRow_below o1 f10
            replace o2 := ownsRow_below o2 f10
            replace o3 := ownsRow_below o3 f10
            replace o4 := ownsRow_below o4 f10
            replace o5 := ownsRow_below o5 f10
            replace o6 := ownsRow_below o6 f10
            replace o7 := ownsRow_below o7 f10
            replace o8 := ownsRow_below o8 f10
            have bq10 := bstep bq9 f10
            clear hb10 f10 bq9
            go_upto_region 14 with fail
            refine (fun (h : ∀ V, V = _ → Code.wp _ _ _ _ V) => h _ rfl) ?_
            intro w11 hV11
            have f11 : Below w10.heap.size w10 w11 := by rw [hV11]; (repeat (first | with_reducible exact Below.refl _ _ | with_reducible assumption | with_reducible refine balloc ?_ _ | with_reducible refine bdrew ?_ | with_reducible refine below_drewN ?_ _ | with_reducible refine bset ?_ ?_ _ | with_reducible exact Nat.le_refl _ | with_reducible refine bsize ?_ | (dsimp only; refine Nat.le_trans ?_ (Nat.le_add_right _ _)) | with_reducible refine Nat.le_trans ?_ (Nat.le_add_right _ _) | (with_reducible refine bstep ?_ (by assumption))))
            have db0 : w11.cell? ⟨w10.heap.size, 0, none⟩ = some (.int .i64 1) := by rw [hV11]; first | (simp [go_sem]; done) | (simp [go_sem, *]; done)
            have db1 : w11.cell? ⟨w10.heap.size, 1, none⟩ = some (.int .i64 1) := by rw [hV11]; first | (simp [go_sem]; done) | (simp [go_sem, *]; done)
            have dbz : w10.heap.size < w11.heap.size := by rw [hV11]; first | (simp; done) | (simp; omega)
            replace da0 := keepa f11 daz da0
            replace da1 := keepa f11 daz da1
            replace daz := Nat.lt_of_lt_of_le daz f11.size
            replace o1 := ownsRow_below o1 f11
            replace o2 := ownsRow_below o2 f11
            replace o3 := ownsRow_below o3 f11
            replace o4 := ownsRow_below o4 f11
            replace o5 := ownsRow_below o5 f11
            replace o6 := ownsRow_below o6 f11
            replace o7 := ownsRow_below o7 f11
            replace o8 := ownsRow_below o8 f11
            have bq11 := bstep bq10 f11
            clear hV11 f11 bq10
            go_wp2_with fail; refine (xDepots_same _ _ _ _ _ _ LDepotsOut.out o1 o2).mono ?_; rintro e w12 ⟨rfl, hb12⟩
            have f12 : Below w11.heap.size w11 w12 := bstep (show Below w11.heap.size w11 _ by (repeat (first | with_reducible exact Below.refl _ _ | with_reducible assumption | with_reducible refine balloc ?_ _ | with_reducible refine bdrew ?_ | with_reducible refine below_drewN ?_ _ | with_reducible refine bset ?_ ?_ _ | with_reducible exact Nat.le_refl _ | with_reducible refine bsize ?_ | (dsimp only; refine Nat.le_trans ?_ (Nat.le_add_right _ _)) | with_reducible refine Nat.le_trans ?_ (Nat.le_add_right _ _) | (with_reducible refine bstep ?_ (by assumption))))) hb12
            replace da0 := keepa f12 daz da0
            replace da1 := keepa f12 daz da1
            replace db0 := keepa f12 dbz db0
            replace db1 := keepa f12 dbz db1
            replace daz := Nat.lt_of_lt_of_le daz f12.size
            replace dbz := Nat.lt_of_lt_of_le dbz f12.size
            replace o1 := ownsRow_below o1 f12
            replace o2 := ownsRow_below o2 f12
            replace o3 := ownsRow_below o3 f12
            replace o4 := ownsRow_below o4 f12
            replace o5 := ownsRow_below o5 f12
            replace o6 := ownsRow_below o6 f12
            replace o7 := ownsRow_below o7 f12
            replace o8 := ownsRow_below o8 f12
            have bq12 := bstep bq11 f12
            clear hb12 f12 bq11
            go_wp2_with fail; refine (xDepots_same _ _ _ _ _ _ LDepotsBack.out o3 o4).mono ?_; rintro e w13 ⟨rfl, hb13⟩
            have f13 : Below w12.heap.size w12 w13 := bstep (show Below w12.heap.size w12 _ by (repeat (first | with_reducible exact Below.refl _ _ | with_reducible assumption | with_reducible refine balloc ?_ _ | with_reducible refine bdrew ?_ | with_reducible refine below_drewN ?_ _ | with_reducible refine bset ?_ ?_ _ | with_reducible exact Nat.le_refl _ | with_reducible refine bsize ?_ | (dsimp only; refine Nat.le_trans ?_ (Nat.le_add_right _ _)) | with_reducible refine Nat.le_trans ?_ (Nat.le_add_right _ _) | (with_reducible refine bstep ?_ (by assumption))))) hb13
            replace da0 := keepa f13 daz da0
            replace da1 := keepa f13 daz da1
            replace db0 := keepa f13 dbz db0
            replace db1 := keepa f13 dbz db1
            replace daz := Nat.lt_of_lt_of_le daz f13.size
            replace dbz := Nat.lt_of_lt_of_le dbz f13.size
            replace o1 := ownsRow_below o1 f13
            replace o2 := ownsRow_below o2 f13
            replace o3 := ownsRow_below o3 f13
            replace o4 := ownsRow_below o4 f13
            replace o5 := ownsRow_below o5 f13
            replace o6 := ownsRow_below o6 f13
            replace o7 := ownsRow_below o7 f13
            replace o8 := ownsRow_below o8 f13
            have bq13 := bstep bq12 f13
            clear hb13 f13 bq12
            go_wp2_with fail; refine (xSame_same _ _ _ _ _ _ LTripsOut.out o5 o6).mono ?_; rintro e w14 ⟨rfl, hb14⟩
            have f14 : Below w13.heap.size w13 w14 := bstep (show Below w13.heap.size w13 _ by (repeat (first | with_reducible exact Below.refl _ _ | with_reducible assumption | with_reducible refine balloc ?_ _ | with_reducible refine bdrew ?_ | with_reducible refine below_drewN ?_ _ | with_reducible refine bset ?_ ?_ _ | with_reducible exact Nat.le_refl _ | with_reducible refine bsize ?_ | (dsimp only; refine Nat.le_trans ?_ (Nat.le_add_right _ _)) | with_reducible refine Nat.le_trans ?_ (Nat.le_add_right _ _) | (with_reducible refine bstep ?_ (by assumption))))) hb14
            replace da0 := keepa f14 daz da0
            replace da1 := keepa f14 daz da1
            replace db0 := keepa f14 dbz db0
            replace db1 := keepa f14 dbz db1
            replace daz := Nat.lt_of_lt_of_le daz f14.size
            replace dbz := Nat.lt_of_lt_of_le dbz f14.size
            replace o1 := ownsRow_below o1 f14
            replace o2 := ownsRow_below o2 f14
            replace o3 := ownsRow_below o3 f14
            replace o4 := ownsRow_below o4 f14
            replace o5 := ownsRow_below o5 f14
            replace o6 := ownsRow_below o6 f14
            replace o7 := ownsRow_below o7 f14
            replace o8 := ownsRow_below o8 f14
            have bq14 := bstep bq13 f14
            clear hb14 f14 bq13
            go_wp2_with fail; refine (xAmounts_same _ _ _ _ _ _ LCarriesOut.out o7 o8).mono ?_; rintro e w15 ⟨rfl, hb15⟩
            have f15 : Below w14.heap.size w14 w15 := bstep (show Below w14.heap.size w14 _ by (repeat (first | with_reducible exact Below.refl _ _ | with_reducible assumption | with_reducible refine balloc ?_ _ | with_reducible refine bdrew ?_ | with_reducible refine below_drewN ?_ _ | with_reducible refine bset ?_ ?_ _ | with_reducible exact Nat.le_refl _ | with_reducible refine bsize ?_ | (dsimp only; refine Nat.le_trans ?_ (Nat.le_add_right _ _)) | with_reducible refine Nat.le_trans ?_ (Nat.le_add_right _ _) | (with_reducible refine bstep ?_ (by assumption))))) hb15
            replace da0 := keepa f15 daz da0
            replace da1 := keepa f15 daz da1
            replace db0 := keepa f15 dbz db0
            replace db1 := keepa f15 dbz db1
            replace daz := Nat.lt_of_lt_of_le daz f15.size
            replace dbz := Nat.lt_of_lt_of_le dbz f15.size
            replace o1 := ownsRow_below o1 f15
            replace o2 := ownsRow_below o2 f15
            replace o3 := ownsRow_below o3 f15
            replace o4 := ownsRow_below o4 f15
            replace o5 := ownsRow_below o5 f15
            replace o6 := ownsRow_below o6 f15
            replace o7 := ownsRow_below o7 f15
            replace o8 := ownsRow_below o8 f15
            have bq15 := bstep bq14 f15
            clear hb15 f15 bq14
            obtain ⟨ao1, ko1, rfl⟩ := owns_shape o1
            obtain ⟨ao3, ko3, rfl⟩ := owns_shape o3
            obtain ⟨ao5, ko5, rfl⟩ := owns_shape o5
            obtain ⟨ao7, ko7, rfl⟩ := owns_shape o7
            go_wp2_with fail; refine (HI.out _).mono ?_; rintro e w16 ⟨rfl, hb16⟩
            have f16 : Below w15.heap.size w15 w16 := bstep (show Below w15.heap.size w15 _ by (repeat (first | with_reducible exact Below.refl _ _ | with_reducible assumption | with_reducible refine balloc ?_ _ | with_reducible refine bdrew ?_ | with_reducible refine below_drewN ?_ _ | with_reducible refine bset ?_ ?_ _ | with_reducible exact Nat.le_refl _ | with_reducible refine bsize ?_ | (dsimp only; refine Nat.le_trans ?_ (Nat.le_add_right _ _)) | with_reducible refine Nat.le_trans ?_ (Nat.le_add_right _ _) | (with_reducible refine bstep ?_ (by assumption))))) hb16
            replace da0 := keepa f16 daz da0
            replace da1 := keepa f16 daz da1
            replace db0 := keepa f16 dbz db0
            replace db1 := keepa f16 dbz db1
            replace daz := Nat.lt_of_lt_of_le daz f16.size
            replace dbz := Nat.lt_of_lt_of_le dbz f16.size
            have bq16 := bstep bq15 f16
            clear hb16 f16 bq15
            clear da0 da1 daz db0 db1 dbz
            go_upto_region 24 with fail
            refine (fun (h : ∀ V, V = _ → Code.wp _ _ _ _ V) => h _ rfl) ?_
            intro w17 hV17
            have f17 : Below w16.heap.size w16 w17 := by rw [hV17]; (repeat (first | with_reducible exact Below.refl _ _ | with_reducible assumption | with_reducible refine balloc ?_ _ | with_reducible refine bdrew ?_ | with_reducible refine below_drewN ?_ _ | with_reducible refine bset ?_ ?_ _ | with_reducible exact Nat.le_refl _ | with_reducible refine bsize ?_ | (dsimp only; refine Nat.le_trans ?_ (Nat.le_add_right _ _)) | with_reducible refine Nat.le_trans ?_ (Nat.le_add_right _ _) | (with_reducible refine bstep ?_ (by assumption))))
            have at0 : w17.cell? ⟨w16.heap.size, 0, none⟩ = some (.int .i64 0) := by rw [hV17]; first | (simp [go_sem]; done) | (simp [go_sem, *]; done)
            have at1 : w17.cell? ⟨w16.heap.size, 1, none⟩ = some (.int .i64 1) := by rw [hV17]; first | (simp [go_sem]; done) | (simp [go_sem, *]; done)
            have atz : w16.heap.size < w17.heap.size := by rw [hV17]; first | (simp; done) | (simp; omega)
            have ho0 : w17.cell? ⟨w16.heap.size + 1, 0, none⟩ = some (.int .i64 0) := by rw [hV17]; first | (simp [go_sem]; done) | (simp [go_sem, *]; done)
            have ho1 : w17.cell? ⟨w16.heap.size + 1, 1, none⟩ = some (.int .i64 1) := by rw [hV17]; first | (simp [go_sem]; done) | (simp [go_sem, *]; done)
            have hoz : w16.heap.size + 1 < w17.heap.size := by rw [hV17]; first | (simp; done) | (simp; omega)
            have bq17 := bstep bq16 f17
            clear hV17 f17 bq16
            go_wp2
            go_loopw [210] (fun c wr => c = .int .i64 0 ∧ w17 = wr) (fun _ _ => 0)
            case atStart => exact ⟨rfl, rfl⟩
            case round =>
              obtain ⟨rfl, rfl⟩ := hrel
              go_wp2_with fail; refine (HF.out _).mono ?_; rintro e w18 ⟨rfl, hb18⟩
              have f18 : Below w17.heap.size w17 w18 := bstep (show Below w17.heap.size w17 _ by (repeat (first | with_reducible exact Below.refl _ _ | with_reducible assumption | with_reducible refine balloc ?_ _ | with_reducible refine bdrew ?_ | with_reducible refine below_drewN ?_ _ | with_reducible refine bset ?_ ?_ _ | with_reducible exact Nat.le_refl _ | with_reducible refine bsize ?_ | (dsimp only; refine Nat.le_trans ?_ (Nat.le_add_right _ _)) | with_reducible refine Nat.le_trans ?_ (Nat.le_add_right _ _) | (with_reducible refine bstep ?_ (by assumption))))) hb18
              replace at0 := keepa f18 atz at0
              replace at1 := keepa f18 atz at1
              replace ho0 := keepa f18 hoz ho0
              replace ho1 := keepa f18 hoz ho1
              replace atz := Nat.lt_of_lt_of_le atz f18.size
              replace hoz := Nat.lt_of_lt_of_le hoz f18.size
              have bq18 := bstep bq17 f18
              clear hb18 f18 bq17
              go_wp2_with fail; refine (HA.out _).mono ?_; rintro e w19 ⟨rfl, hb19⟩
              have f19 : Below w18.heap.size w18 w19 := bstep (show Below w18.heap.size w18 _ by (repeat (first | with_reducible exact Below.refl _ _ | with_reducible assumption | with_reducible refine balloc ?_ _ | with_reducible refine bdrew ?_ | with_reducible refine below_drewN ?_ _ | with_reducible refine bset ?_ ?_ _ | with_reducible exact Nat.le_refl _ | with_reducible refine bsize ?_ | (dsimp only; refine Nat.le_trans ?_ (Nat.le_add_right _ _)) | with_reducible refine Nat.le_trans ?_ (Nat.le_add_right _ _) | (with_reducible refine bstep ?_ (by assumption))))) hb19
              have fr0 : w19.cell? ⟨w18.heap.size, 0, none⟩ = some (.int .i64 1) := (hb19.cell (p := ⟨w18.heap.size, 0, none⟩) (by first | (simp; done) | (simp; omega))).trans (by first | (simp [go_sem]; done) | (simp [go_sem, *]; done))
              have fr1 : w19.cell? ⟨w18.heap.size, 1, none⟩ = some (.int .i64 1) := (hb19.cell (p := ⟨w18.heap.size, 1, none⟩) (by first | (simp; done) | (simp; omega))).trans (by first | (simp [go_sem]; done) | (simp [go_sem, *]; done))
              have frz : w18.heap.size < w19.heap.size := Nat.lt_of_lt_of_le (by first | (simp; done) | (simp; omega)) hb19.size
              replace at0 := keepa f19 atz at0
              replace at1 := keepa f19 atz at1
              replace ho0 := keepa f19 hoz ho0
              replace ho1 := keepa f19 hoz ho1
              replace atz := Nat.lt_of_lt_of_le atz f19.size
              replace hoz := Nat.lt_of_lt_of_le hoz f19.size
              have bq19 := bstep bq18 f19
              clear hb19 f19 bq18
              go_wp2
              go_ret
              exact ⟨rfl, bstep hbd (show Below w.heap.size w _ by (repeat (first | with_reducible exact Below.refl _ _ | with_reducible assumption | with_reducible refine balloc ?_ _ | with_reducible refine bdrew ?_ | with_reducible refine below_drewN ?_ _ | with_reducible refine bset ?_ ?_ _ | with_reducible exact Nat.le_refl _ | with_reducible refine bsize ?_ | (dsimp only; refine Nat.le_trans ?_ (Nat.le_add_right _ _)) | with_reducible refine Nat.le_trans ?_ (Nat.le_add_right _ _) | (with_reducible refine bstep ?_ (by assumption)))))⟩
        · as_aux_lemma =>
            obtain ⟨m, rfl⟩ : ∃ m : Nat, n = (m : Int) + 1 := ⟨n.toNat - 1, by omega⟩
            have h1 : 1 ≤ m := by omega
            have h9 : m < 10 := by omega
            clear hx hn h0
            have hc : ((m + 1 : Nat) : Int) = (m : Int) + 1 := by omega
            have hk : tkOk ((m : Int) + 1) = true := by unfold tkOk inB; simp; omega
            have hn : ((m : Int) + 1).toNat = m + 1 := by omega
            have h := br_all m h9
            simp only [brOk, Bool.and_eq_true, beq_iff_eq] at h
            obtain ⟨⟨⟨e1, e2⟩, e3⟩, e4⟩ := h
            have hat : ∀ i, i < m → brAt m i = true := fun i hi => br_at m h9 i hi
            simp only [brAt] at hat
            have HDepotsOuti := fun W => depotsOut_impl ((m : Int) + 1) (by omega) W
            simp only [hk, hn, dpL, trL, crL, if_true, Nat.add_sub_cancel] at HDepotsOuti
            have HDepotsBacki := fun W => depotsBack_impl ((m : Int) + 1) (by omega) W
            simp only [hk, hn, dpL, trL, crL, if_true, Nat.add_sub_cancel] at HDepotsBacki
            have HTripsOuti := fun W => tripsOut_impl ((m : Int) + 1) (by omega) W
            simp only [hk, hn, dpL, trL, crL, if_true, Nat.add_sub_cancel] at HTripsOuti
            have HCarriesOuti := fun W => carriesOut_impl ((m : Int) + 1) (by omega) W
            simp only [hk, hn, dpL, trL, crL, if_true, Nat.add_sub_cancel] at HCarriesOuti
            have HDrivenOuti := fun W => drivenOut_impl ((m : Int) + 1) W
            simp only [hk, dvN, dvD, if_true] at HDrivenOuti
            have HDepotsOuts := fun W => depotsOut_spec ((m : Int) + 1) (by omega) W
            simp only [hk, hn, dpL, trL, crL, if_true, Nat.add_sub_cancel] at HDepotsOuts
            have HDepotsBacks := fun W => depotsBack_spec ((m : Int) + 1) (by omega) W
            simp only [hk, hn, dpL, trL, crL, if_true, Nat.add_sub_cancel] at HDepotsBacks
            have HTripsOuts := fun W => tripsOut_spec ((m : Int) + 1) (by omega) W
            simp only [hk, hn, dpL, trL, crL, if_true, Nat.add_sub_cancel] at HTripsOuts
            have HCarriesOuts := fun W => carriesOut_spec ((m : Int) + 1) (by omega) W
            simp only [hk, hn, dpL, trL, crL, if_true, Nat.add_sub_cancel] at HCarriesOuts
            have HDrivenOuts := fun W => drivenOut_spec ((m : Int) + 1) W
            simp only [hk, dvN, dvD, if_true] at HDrivenOuts
            have HF := fun W => fwOut_impl ((m : Int) + 1) 1 (by omega) (by omega) W
            rw [e2] at HF
            have LDepotsOut := Lib.hid (show (dpP 1 (m + 1) m).length ≤ 1048576 by rw [dpP_len]; omega)
            have LDepotsBack := Lib.hid (show (dpP 2 (m + 1) m).length ≤ 1048576 by rw [dpP_len]; omega)
            have LTripsOut := Lib.hid (show (trP (m + 1) m).length ≤ 1048576 by rw [trP_len]; omega)
            have LCarriesOut := Lib.hid (show (crP (m + 1) m).length ≤ 1048576 by rw [crP_len]; omega)
            have M1 := Lib.hid (dpP_len 1 (m + 1) m)
            have M3 := Lib.hid (dpP_len 2 (m + 1) m)
            have M5 := Lib.hid (trP_len (m + 1) m)
            have M7 := Lib.hid (crP_len (m + 1) m)
            generalize dpP 1 (m + 1) m = D1 at *
            generalize dpP 2 (m + 1) m = D2 at *
            generalize trP (m + 1) m = TR at *
            generalize crP (m + 1) m = CR at *
            generalize fwX 1 ((m : Int) + 1) 1 = fx at *
            generalize fwY 1 ((m : Int) + 1) 1 = fy at *
            replace HDepotsOuti := Lib.hid HDepotsOuti
            replace HDepotsOuts := Lib.hid HDepotsOuts
            replace HDepotsBacki := Lib.hid HDepotsBacki
            replace HDepotsBacks := Lib.hid HDepotsBacks
            replace HTripsOuti := Lib.hid HTripsOuti
            replace HTripsOuts := Lib.hid HTripsOuts
            replace HCarriesOuti := Lib.hid HCarriesOuti
            replace HCarriesOuts := Lib.hid HCarriesOuts
            replace HDrivenOuti := Lib.hid HDrivenOuti
            replace HDrivenOuts := Lib.hid HDrivenOuts
            replace HF := Lib.hid HF; have HAT := Lib.hid hat; have HI := Lib.hid (is_con e1); have E3 := Lib.hid e3; have E4 := Lib.hid e4
            clear hat e1 e2 e3 e4 hk hn hc
            have bq0 : Below w.heap.size w w := Below.refl _ _
            go_wp2_with fail; refine (HDepotsOuti.out _).mono ?_; rintro e w1 ⟨vo1, rfl, o1, hb1⟩
            have f1 : Below w.heap.size w w1 := bstep (show Below w.heap.size w _ by (repeat (first | with_reducible exact Below.refl _ _ | with_reducible assumption | with_reducible refine balloc ?_ _ | with_reducible refine bdrew ?_ | with_reducible refine below_drewN ?_ _ | with_reducible refine bset ?_ ?_ _ | with_reducible exact Nat.le_refl _ | with_reducible refine bsize ?_ | (dsimp only; refine Nat.le_trans ?_ (Nat.le_add_right _ _)) | with_reducible refine Nat.le_trans ?_ (Nat.le_add_right _ _) | (with_reducible refine bstep ?_ (by assumption))))) hb1
            have bq1 := bstep bq0 f1
            clear hb1 f1 bq0
            go_wp2_with fail; refine (HDepotsOuts.out _).mono ?_; rintro e w2 ⟨vo2, rfl, o2, hb2⟩
            have f2 : Below w1.heap.size w1 w2 := bstep (show Below w1.heap.size w1 _ by (repeat (first | with_reducible exact Below.refl _ _ | with_reducible assumption | with_reducible refine balloc ?_ _ | with_reducible refine bdrew ?_ | with_reducible refine below_drewN ?_ _ | with_reducible refine bset ?_ ?_ _ | with_reducible exact Nat.le_refl _ | with_reducible refine bsize ?_ | (dsimp only; refine Nat.le_trans ?_ (Nat.le_add_right _ _)) | with_reducible refine Nat.le_trans ?_ (Nat.le_add_right _ _) | (with_reducible refine bstep ?_ (by assumption))))) hb2
            replace o1 := ownsRow_below o1 f2
            have bq2 := bstep bq1 f2
            clear hb2 f2 bq1
            go_wp2_with fail; refine (HDepotsBacki.out _).mono ?_; rintro e w3 ⟨vo3, rfl, o3, hb3⟩
            have f3 : Below w2.heap.size w2 w3 := bstep (show Below w2.heap.size w2 _ by (repeat (first | with_reducible exact Below.refl _ _ | with_reducible assumption | with_reducible refine balloc ?_ _ | with_reducible refine bdrew ?_ | with_reducible refine below_drewN ?_ _ | with_reducible refine bset ?_ ?_ _ | with_reducible exact Nat.le_refl _ | with_reducible refine bsize ?_ | (dsimp only; refine Nat.le_trans ?_ (Nat.le_add_right _ _)) | with_reducible refine Nat.le_trans ?_ (Nat.le_add_right _ _) | (with_reducible refine bstep ?_ (by assumption))))) hb3
            replace o1 := ownsRow_below o1 f3
            replace o2 := ownsRow_below o2 f3
            have bq3 := bstep bq2 f3
            clear hb3 f3 bq2
            go_wp2_with fail; refine (HDepotsBacks.out _).mono ?_; rintro e w4 ⟨vo4, rfl, o4, hb4⟩
            have f4 : Below w3.heap.size w3 w4 := bstep (show Below w3.heap.size w3 _ by (repeat (first | with_reducible exact Below.refl _ _ | with_reducible assumption | with_reducible refine balloc ?_ _ | with_reducible refine bdrew ?_ | with_reducible refine below_drewN ?_ _ | with_reducible refine bset ?_ ?_ _ | with_reducible exact Nat.le_refl _ | with_reducible refine bsize ?_ | (dsimp only; refine Nat.le_trans ?_ (Nat.le_add_right _ _)) | with_reducible refine Nat.le_trans ?_ (Nat.le_add_right _ _) | (with_reducible refine bstep ?_ (by assumption))))) hb4
            replace o1 := ownsRow_below o1 f4
            replace o2 := ownsRow_below o2 f4
            replace o3 := ownsRow_below o3 f4
            have bq4 := bstep bq3 f4
            clear hb4 f4 bq3
            go_wp2_with fail; refine (HTripsOuti.out _).mono ?_; rintro e w5 ⟨vo5, rfl, o5, hb5⟩
            have f5 : Below w4.heap.size w4 w5 := bstep (show Below w4.heap.size w4 _ by (repeat (first | with_reducible exact Below.refl _ _ | with_reducible assumption | with_reducible refine balloc ?_ _ | with_reducible refine bdrew ?_ | with_reducible refine below_drewN ?_ _ | with_reducible refine bset ?_ ?_ _ | with_reducible exact Nat.le_refl _ | with_reducible refine bsize ?_ | (dsimp only; refine Nat.le_trans ?_ (Nat.le_add_right _ _)) | with_reducible refine Nat.le_trans ?_ (Nat.le_add_right _ _) | (with_reducible refine bstep ?_ (by assumption))))) hb5
            replace o1 := ownsRow_below o1 f5
            replace o2 := ownsRow_below o2 f5
            replace o3 := ownsRow_below o3 f5
            replace o4 := ownsRow_below o4 f5
            have bq5 := bstep bq4 f5
            clear hb5 f5 bq4
            go_wp2_with fail; refine (HTripsOuts.out _).mono ?_; rintro e w6 ⟨vo6, rfl, o6, hb6⟩
            have f6 : Below w5.heap.size w5 w6 := bstep (show Below w5.heap.size w5 _ by (repeat (first | with_reducible exact Below.refl _ _ | with_reducible assumption | with_reducible refine balloc ?_ _ | with_reducible refine bdrew ?_ | with_reducible refine below_drewN ?_ _ | with_reducible refine bset ?_ ?_ _ | with_reducible exact Nat.le_refl _ | with_reducible refine bsize ?_ | (dsimp only; refine Nat.le_trans ?_ (Nat.le_add_right _ _)) | with_reducible refine Nat.le_trans ?_ (Nat.le_add_right _ _) | (with_reducible refine bstep ?_ (by assumption))))) hb6
            replace o1 := ownsRow_below o1 f6
            replace o2 := ownsRow_below o2 f6
            replace o3 := ownsRow_below o3 f6
            replace o4 := ownsRow_below o4 f6
            replace o5 := ownsRow_below o5 f6
            have bq6 := bstep bq5 f6
            clear hb6 f6 bq5
            go_wp2_with fail; refine (HCarriesOuti.out _).mono ?_; rintro e w7 ⟨vo7, rfl, o7, hb7⟩
            have f7 : Below w6.heap.size w6 w7 := bstep (show Below w6.heap.size w6 _ by (repeat (first | with_reducible exact Below.refl _ _ | with_reducible assumption | with_reducible refine balloc ?_ _ | with_reducible refine bdrew ?_ | with_reducible refine below_drewN ?_ _ | with_reducible refine bset ?_ ?_ _ | with_reducible exact Nat.le_refl _ | with_reducible refine bsize ?_ | (dsimp only; refine Nat.le_trans ?_ (Nat.le_add_right _ _)) | with_reducible refine Nat.le_trans ?_ (Nat.le_add_right _ _) | (with_reducible refine bstep ?_ (by assumption))))) hb7
            replace o1 := ownsRow_below o1 f7
            replace o2 := ownsRow_below o2 f7
            replace o3 := ownsRow_below o3 f7
            replace o4 := ownsRow_below o4 f7
            replace o5 := ownsRow_below o5 f7
            replace o6 := ownsRow_below o6 f7
            have bq7 := bstep bq6 f7
            clear hb7 f7 bq6
            go_wp2_with fail; refine (HCarriesOuts.out _).mono ?_; rintro e w8 ⟨vo8, rfl, o8, hb8⟩
            have f8 : Below w7.heap.size w7 w8 := bstep (show Below w7.heap.size w7 _ by (repeat (first | with_reducible exact Below.refl _ _ | with_reducible assumption | with_reducible refine balloc ?_ _ | with_reducible refine bdrew ?_ | with_reducible refine below_drewN ?_ _ | with_reducible refine bset ?_ ?_ _ | with_reducible exact Nat.le_refl _ | with_reducible refine bsize ?_ | (dsimp only; refine Nat.le_trans ?_ (Nat.le_add_right _ _)) | with_reducible refine Nat.le_trans ?_ (Nat.le_add_right _ _) | (with_reducible refine bstep ?_ (by assumption))))) hb8
            replace o1 := ownsRow_below o1 f8
            replace o2 := ownsRow_below o2 f8
            replace o3 := ownsRow_below o3 f8
            replace o4 := ownsRow_below o4 f8
            replace o5 := ownsRow_below o5 f8
            replace o6 := ownsRow_below o6 f8
            replace o7 := ownsRow_below o7 f8
            have bq8 := bstep bq7 f8
            clear hb8 f8 bq7
            go_wp2_with fail; refine (HDrivenOuti.out _).mono ?_; rintro e w9 ⟨rfl, hb9⟩
            have f9 : Below w8.heap.size w8 w9 := bstep (show Below w8.heap.size w8 _ by (repeat (first | with_reducible exact Below.refl _ _ | with_reducible assumption | with_reducible refine balloc ?_ _ | with_reducible refine bdrew ?_ | with_reducible refine below_drewN ?_ _ | with_reducible refine bset ?_ ?_ _ | with_reducible exact Nat.le_refl _ | with_reducible refine bsize ?_ | (dsimp only; refine Nat.le_trans ?_ (Nat.le_add_right _ _)) | with_reducible refine Nat.le_trans ?_ (Nat.le_add_right _ _) | (with_reducible refine bstep ?_ (by assumption))))) hb9
            replace o1 := ownsRow_below o1 f9
            replace o2 := ownsRow_below o2 f9
            replace o3 := ownsRow_below o3 f9
            replace o4 := ownsRow_below o4 f9
            replace o5 := ownsRow_below o5 f9
            replace o6 := ownsRow_below o6 f9
            replace o7 := ownsRow_below o7 f9
            replace o8 := ownsRow_below o8 f9
            have bq9 := bstep bq8 f9
            clear hb9 f9 bq8
            go_wp2_with fail; refine (HDrivenOuts.out _).mono ?_; rintro e w10 ⟨rfl, hb10⟩
            have f10 : Below w9.heap.size w9 w10 := bstep (show Below w9.heap.size w9 _ by (repeat (first | with_reducible exact Below.refl _ _ | with_reducible assumption | with_reducible refine balloc ?_ _ | with_reducible refine bdrew ?_ | with_reducible refine below_drewN ?_ _ | with_reducible refine bset ?_ ?_ _ | with_reducible exact Nat.le_refl _ | with_reducible refine bsize ?_ | (dsimp only; refine Nat.le_trans ?_ (Nat.le_add_right _ _)) | with_reducible refine Nat.le_trans ?_ (Nat.le_add_right _ _) | (with_reducible refine bstep ?_ (by assumption))))) hb10
            have da0 : w10.cell? ⟨w9.heap.size, 0, none⟩ = some (.int .i64 ((m : Int) + 1)) := (hb10.cell (p := ⟨w9.heap.size, 0, none⟩) (by first | (simp; done) | (simp; omega))).trans (by first | (simp [go_sem]; done) | (simp [go_sem, *]; done))
            have da1 : w10.cell? ⟨w9.heap.size, 1, none⟩ = some (.int .i64 1) := (hb10.cell (p := ⟨w9.heap.size, 1, none⟩) (by first | (simp; done) | (simp; omega))).trans (by first | (simp [go_sem]; done) | (simp [go_sem, *]; done))
            have daz : w9.heap.size < w10.heap.size := Nat.lt_of_lt_of_le (by first | (simp; done) | (simp; omega)) hb10.size
            replace o1 := ownsRow_below o1 f10
            replace o2 := ownsRow_below o2 f10
            replace o3 := ownsRow_below o3 f10
            replace o4 := ownsRow_below o4 f10
            replace o5 := ownsRow_below o5 f10
            replace o6 := ownsRow_below o6 f10
            replace o7 := ownsRow_below o7 f10
            replace o8 := ownsRow_below o8 f10
            have bq10 := bstep bq9 f10
            clear hb10 f10 bq9
            go_upto_region 14 with fail
            refine (fun (h : ∀ V, V = _ → Code.wp _ _ _ _ V) => h _ rfl) ?_
            intro w11 hV11
            have f11 : Below w10.heap.size w10 w11 := by rw [hV11]; (repeat (first | with_reducible exact Below.refl _ _ | with_reducible assumption | with_reducible refine balloc ?_ _ | with_reducible refine bdrew ?_ | with_reducible refine below_drewN ?_ _ | with_reducible refine bset ?_ ?_ _ | with_reducible exact Nat.le_refl _ | with_reducible refine bsize ?_ | (dsimp only; refine Nat.le_trans ?_ (Nat.le_add_right _ _)) | with_reducible refine Nat.le_trans ?_ (Nat.le_add_right _ _) | (with_reducible refine bstep ?_ (by assumption))))
            have db0 : w11.cell? ⟨w10.heap.size, 0, none⟩ = some (.int .i64 ((m : Int) + 1)) := by rw [hV11]; first | (simp [go_sem]; done) | (simp [go_sem, *]; done)
            have db1 : w11.cell? ⟨w10.heap.size, 1, none⟩ = some (.int .i64 1) := by rw [hV11]; first | (simp [go_sem]; done) | (simp [go_sem, *]; done)
            have dbz : w10.heap.size < w11.heap.size := by rw [hV11]; first | (simp; done) | (simp; omega)
            replace da0 := keepa f11 daz da0
            replace da1 := keepa f11 daz da1
            replace daz := Nat.lt_of_lt_of_le daz f11.size
            replace o1 := ownsRow_below o1 f11
            replace o2 := ownsRow_below o2 f11
            replace o3 := ownsRow_below o3 f11
            replace o4 := ownsRow_below o4 f11
            replace o5 := ownsRow_below o5 f11
            replace o6 := ownsRow_below o6 f11
            replace o7 := ownsRow_below o7 f11
            replace o8 := ownsRow_below o8 f11
            have bq11 := bstep bq10 f11
            clear hV11 f11 bq10
            go_wp2_with fail; refine (xDepots_same _ _ _ _ _ _ LDepotsOut.out o1 o2).mono ?_; rintro e w12 ⟨rfl, hb12⟩
            have f12 : Below w11.heap.size w11 w12 := bstep (show Below w11.heap.size w11 _ by (repeat (first | with_reducible exact Below.refl _ _ | with_reducible assumption | with_reducible refine balloc ?_ _ | with_reducible refine bdrew ?_ | with_reducible refine below_drewN ?_ _ | with_reducible refine bset ?_ ?_ _ | with_reducible exact Nat.le_refl _ | with_reducible refine bsize ?_ | (dsimp only; refine Nat.le_trans ?_ (Nat.le_add_right _ _)) | with_reducible refine Nat.le_trans ?_ (Nat.le_add_right _ _) | (with_reducible refine bstep ?_ (by assumption))))) hb12
            replace da0 := keepa f12 daz da0
            replace da1 := keepa f12 daz da1
            replace db0 := keepa f12 dbz db0
            replace db1 := keepa f12 dbz db1
            replace daz := Nat.lt_of_lt_of_le daz f12.size
            replace dbz := Nat.lt_of_lt_of_le dbz f12.size
            replace o1 := ownsRow_below o1 f12
            replace o2 := ownsRow_below o2 f12
            replace o3 := ownsRow_below o3 f12
            replace o4 := ownsRow_below o4 f12
            replace o5 := ownsRow_below o5 f12
            replace o6 := ownsRow_below o6 f12
            replace o7 := ownsRow_below o7 f12
            replace o8 := ownsRow_below o8 f12
            have bq12 := bstep bq11 f12
            clear hb12 f12 bq11
            go_wp2_with fail; refine (xDepots_same _ _ _ _ _ _ LDepotsBack.out o3 o4).mono ?_; rintro e w13 ⟨rfl, hb13⟩
            have f13 : Below w12.heap.size w12 w13 := bstep (show Below w12.heap.size w12 _ by (repeat (first | with_reducible exact Below.refl _ _ | with_reducible assumption | with_reducible refine balloc ?_ _ | with_reducible refine bdrew ?_ | with_reducible refine below_drewN ?_ _ | with_reducible refine bset ?_ ?_ _ | with_reducible exact Nat.le_refl _ | with_reducible refine bsize ?_ | (dsimp only; refine Nat.le_trans ?_ (Nat.le_add_right _ _)) | with_reducible refine Nat.le_trans ?_ (Nat.le_add_right _ _) | (with_reducible refine bstep ?_ (by assumption))))) hb13
            replace da0 := keepa f13 daz da0
            replace da1 := keepa f13 daz da1
            replace db0 := keepa f13 dbz db0
            replace db1 := keepa f13 dbz db1
            replace daz := Nat.lt_of_lt_of_le daz f13.size
            replace dbz := Nat.lt_of_lt_of_le dbz f13.size
            replace o1 := ownsRow_below o1 f13
            replace o2 := ownsRow_below o2 f13
            replace o3 := ownsRow_below o3 f13
            replace o4 := ownsRow_below o4 f13
            replace o5 := ownsRow_below o5 f13
            replace o6 := ownsRow_below o6 f13
            replace o7 := ownsRow_below o7 f13
            replace o8 := ownsRow_below o8 f13
            have bq13 := bstep bq12 f13
            clear hb13 f13 bq12
            go_wp2_with fail; refine (xSame_same _ _ _ _ _ _ LTripsOut.out o5 o6).mono ?_; rintro e w14 ⟨rfl, hb14⟩
            have f14 : Below w13.heap.size w13 w14 := bstep (show Below w13.heap.size w13 _ by (repeat (first | with_reducible exact Below.refl _ _ | with_reducible assumption | with_reducible refine balloc ?_ _ | with_reducible refine bdrew ?_ | with_reducible refine below_drewN ?_ _ | with_reducible refine bset ?_ ?_ _ | with_reducible exact Nat.le_refl _ | with_reducible refine bsize ?_ | (dsimp only; refine Nat.le_trans ?_ (Nat.le_add_right _ _)) | with_reducible refine Nat.le_trans ?_ (Nat.le_add_right _ _) | (with_reducible refine bstep ?_ (by assumption))))) hb14
            replace da0 := keepa f14 daz da0
            replace da1 := keepa f14 daz da1
            replace db0 := keepa f14 dbz db0
            replace db1 := keepa f14 dbz db1
            replace daz := Nat.lt_of_lt_of_le daz f14.size
            replace dbz := Nat.lt_of_lt_of_le dbz f14.size
            replace o1 := ownsRow_below o1 f14
            replace o2 := ownsRow_below o2 f14
            replace o3 := ownsRow_below o3 f14
            replace o4 := ownsRow_below o4 f14
            replace o5 := ownsRow_below o5 f14
            replace o6 := ownsRow_below o6 f14
            replace o7 := ownsRow_below o7 f14
            replace o8 := ownsRow_below o8 f14
            have bq14 := bstep bq13 f14
            clear hb14 f14 bq13
            go_wp2_with fail; refine (xAmounts_same _ _ _ _ _ _ LCarriesOut.out o7 o8).mono ?_; rintro e w15 ⟨rfl, hb15⟩
            have f15 : Below w14.heap.size w14 w15 := bstep (show Below w14.heap.size w14 _ by (repeat (first | with_reducible exact Below.refl _ _ | with_reducible assumption | with_reducible refine balloc ?_ _ | with_reducible refine bdrew ?_ | with_reducible refine below_drewN ?_ _ | with_reducible refine bset ?_ ?_ _ | with_reducible exact Nat.le_refl _ | with_reducible refine bsize ?_ | (dsimp only; refine Nat.le_trans ?_ (Nat.le_add_right _ _)) | with_reducible refine Nat.le_trans ?_ (Nat.le_add_right _ _) | (with_reducible refine bstep ?_ (by assumption))))) hb15
            replace da0 := keepa f15 daz da0
            replace da1 := keepa f15 daz da1
            replace db0 := keepa f15 dbz db0
            replace db1 := keepa f15 dbz db1
            replace daz := Nat.lt_of_lt_of_le daz f15.size
            replace dbz := Nat.lt_of_lt_of_le dbz f15.size
            replace o1 := ownsRow_below o1 f15
            replace o2 := ownsRow_below o2 f15
            replace o3 := ownsRow_below o3 f15
            replace o4 := ownsRow_below o4 f15
            replace o5 := ownsRow_below o5 f15
            replace o6 := ownsRow_below o6 f15
            replace o7 := ownsRow_below o7 f15
            replace o8 := ownsRow_below o8 f15
            have bq15 := bstep bq14 f15
            clear hb15 f15 bq14
            clear o2 o4 o6 o8
            rw [M1.out] at o1
            obtain ⟨ao1, ko1, rfl⟩ := owns_shape o1
            rw [M3.out] at o3
            obtain ⟨ao3, ko3, rfl⟩ := owns_shape o3
            rw [M5.out] at o5
            obtain ⟨ao5, ko5, rfl⟩ := owns_shape o5
            rw [M7.out] at o7
            obtain ⟨ao7, ko7, rfl⟩ := owns_shape o7
            go_wp2_with fail; refine (HI.out _).mono ?_; rintro e w16 ⟨rfl, hb16⟩
            have f16 : Below w15.heap.size w15 w16 := bstep (show Below w15.heap.size w15 _ by (repeat (first | with_reducible exact Below.refl _ _ | with_reducible assumption | with_reducible refine balloc ?_ _ | with_reducible refine bdrew ?_ | with_reducible refine below_drewN ?_ _ | with_reducible refine bset ?_ ?_ _ | with_reducible exact Nat.le_refl _ | with_reducible refine bsize ?_ | (dsimp only; refine Nat.le_trans ?_ (Nat.le_add_right _ _)) | with_reducible refine Nat.le_trans ?_ (Nat.le_add_right _ _) | (with_reducible refine bstep ?_ (by assumption))))) hb16
            replace da0 := keepa f16 daz da0
            replace da1 := keepa f16 daz da1
            replace db0 := keepa f16 dbz db0
            replace db1 := keepa f16 dbz db1
            replace daz := Nat.lt_of_lt_of_le daz f16.size
            replace dbz := Nat.lt_of_lt_of_le dbz f16.size
            replace o1 := ownsRow_below o1 f16
            replace o3 := ownsRow_below o3 f16
            replace o5 := ownsRow_below o5 f16
            replace o7 := ownsRow_below o7 f16
            have bq16 := bstep bq15 f16
            clear hb16 f16 bq15
            clear da0 da1 daz db0 db1 dbz
            have neto1 : Value.ownBlock (.slice ao1 m ko1) ≠ some (w16.heap.size) := fun e => by have := (o1.lt _ e).2; omega
            have neto3 : Value.ownBlock (.slice ao3 m ko3) ≠ some (w16.heap.size) := fun e => by have := (o3.lt _ e).2; omega
            have neto5 : Value.ownBlock (.slice ao5 m ko5) ≠ some (w16.heap.size) := fun e => by have := (o5.lt _ e).2; omega
            have neto7 : Value.ownBlock (.slice ao7 m ko7) ≠ some (w16.heap.size) := fun e => by have := (o7.lt _ e).2; omega
            have llet : w.heap.size ≤ w16.heap.size := bq16.size
            go_upto_region 23 with fail
            refine (fun (h : ∀ V, V = _ → Code.wp _ _ _ _ V) => h _ rfl) ?_
            intro w17 hV17
            have f17 : Below w16.heap.size w16 w17 := by rw [hV17]; (repeat (first | with_reducible exact Below.refl _ _ | with_reducible assumption | with_reducible refine balloc ?_ _ | with_reducible refine bdrew ?_ | with_reducible refine below_drewN ?_ _ | with_reducible refine bset ?_ ?_ _ | with_reducible exact Nat.le_refl _ | with_reducible refine bsize ?_ | (dsimp only; refine Nat.le_trans ?_ (Nat.le_add_right _ _)) | with_reducible refine Nat.le_trans ?_ (Nat.le_add_right _ _) | (with_reducible refine bstep ?_ (by assumption))))
            have at0 : w17.cell? ⟨w16.heap.size, 0, none⟩ = some (.int .i64 0) := by rw [hV17]; first | (simp [go_sem]; done) | (simp [go_sem, *]; done)
            have atf0 : w17.frozen? ⟨w16.heap.size, 0, none⟩ = false := by rw [hV17]; first | (simp [go_sem]; done) | (simp [go_sem, *]; done)
            have at1 : w17.cell? ⟨w16.heap.size, 1, none⟩ = some (.int .i64 1) := by rw [hV17]; first | (simp [go_sem]; done) | (simp [go_sem, *]; done)
            have atf1 : w17.frozen? ⟨w16.heap.size, 1, none⟩ = false := by rw [hV17]; first | (simp [go_sem]; done) | (simp [go_sem, *]; done)
            have atz : w16.heap.size < w17.heap.size := by rw [hV17]; first | (simp; done) | (simp; omega)
            replace o1 := ownsRow_below o1 f17
            replace o3 := ownsRow_below o3 f17
            replace o5 := ownsRow_below o5 f17
            replace o7 := ownsRow_below o7 f17
            have bq17 := bstep bq16 f17
            clear hV17 f17 bq16
            have nehatz : w16.heap.size ≠ w17.heap.size := by omega
            have enhatz : w17.heap.size ≠ w16.heap.size := by omega
            have neho1 : Value.ownBlock (.slice ao1 m ko1) ≠ some (w17.heap.size) := fun e => by have := (o1.lt _ e).2; omega
            have neho3 : Value.ownBlock (.slice ao3 m ko3) ≠ some (w17.heap.size) := fun e => by have := (o3.lt _ e).2; omega
            have neho5 : Value.ownBlock (.slice ao5 m ko5) ≠ some (w17.heap.size) := fun e => by have := (o5.lt _ e).2; omega
            have neho7 : Value.ownBlock (.slice ao7 m ko7) ≠ some (w17.heap.size) := fun e => by have := (o7.lt _ e).2; omega
            have lleh : w.heap.size ≤ w17.heap.size := bq17.size
            go_upto_region 24 with fail
            refine (fun (h : ∀ V, V = _ → Code.wp _ _ _ _ V) => h _ rfl) ?_
            intro w18 hV18
            have f18 : Below w17.heap.size w17 w18 := by rw [hV18]; (repeat (first | with_reducible exact Below.refl _ _ | with_reducible assumption | with_reducible refine balloc ?_ _ | with_reducible refine bdrew ?_ | with_reducible refine below_drewN ?_ _ | with_reducible refine bset ?_ ?_ _ | with_reducible exact Nat.le_refl _ | with_reducible refine bsize ?_ | (dsimp only; refine Nat.le_trans ?_ (Nat.le_add_right _ _)) | with_reducible refine Nat.le_trans ?_ (Nat.le_add_right _ _) | (with_reducible refine bstep ?_ (by assumption))))
            have ho0 : w18.cell? ⟨w17.heap.size, 0, none⟩ = some (.int .i64 0) := by rw [hV18]; first | (simp [go_sem]; done) | (simp [go_sem, *]; done)
            have hof0 : w18.frozen? ⟨w17.heap.size, 0, none⟩ = false := by rw [hV18]; first | (simp [go_sem]; done) | (simp [go_sem, *]; done)
            have ho1 : w18.cell? ⟨w17.heap.size, 1, none⟩ = some (.int .i64 1) := by rw [hV18]; first | (simp [go_sem]; done) | (simp [go_sem, *]; done)
            have hof1 : w18.frozen? ⟨w17.heap.size, 1, none⟩ = false := by rw [hV18]; first | (simp [go_sem]; done) | (simp [go_sem, *]; done)
            have hoz : w17.heap.size < w18.heap.size := by rw [hV18]; first | (simp; done) | (simp; omega)
            replace at0 := keepa f18 atz at0
            replace at1 := keepa f18 atz at1
            replace atf0 := keepz f18 atz atf0
            replace atf1 := keepz f18 atz atf1
            replace atz := Nat.lt_of_lt_of_le atz f18.size
            replace o1 := ownsRow_below o1 f18
            replace o3 := ownsRow_below o3 f18
            replace o5 := ownsRow_below o5 f18
            replace o7 := ownsRow_below o7 f18
            have bq18 := bstep bq17 f18
            clear hV18 f18 bq17
            go_wp2
            go_loopw [210] (fun c wr => ∃ i : Nat, i ≤ m ∧ c = .int .i64 i ∧ Below w.heap.size w wr ∧ wr.cell? ⟨w16.heap.size, 0, none⟩ = some (.int .i64 (atD D1 i).1) ∧ wr.cell? ⟨w16.heap.size, 1, none⟩ = some (.int .i64 (atD D1 i).2) ∧ wr.cell? ⟨w17.heap.size, 0, none⟩ = some (.int .i64 (atD D2 i).1) ∧ wr.cell? ⟨w17.heap.size, 1, none⟩ = some (.int .i64 (atD D2 i).2) ∧ wr.frozen? ⟨w16.heap.size, 0, none⟩ = false ∧ wr.frozen? ⟨w16.heap.size, 1, none⟩ = false ∧ wr.frozen? ⟨w17.heap.size, 0, none⟩ = false ∧ wr.frozen? ⟨w17.heap.size, 1, none⟩ = false ∧ w16.heap.size < wr.heap.size ∧ w17.heap.size < wr.heap.size ∧ (∃ bs, wr.ownsRow bs 41 4 (.slice ao1 m ko1) (m) (cellsG fDepot D1)) ∧ (∃ bs, wr.ownsRow bs 41 4 (.slice ao3 m ko3) (m) (cellsG fDepot D2)) ∧ (∃ bs, wr.ownsRow bs 3 1 (.slice ao5 m ko5) (m) (cellsG fInt TR)) ∧ (∃ bs, wr.ownsRow bs 26 2 (.slice ao7 m ko7) (m) (cellsG fAmt CR))) (fun c _ => m - (intOf c).toNat)
            case atStart => exact ⟨0, Nat.zero_le _, rfl, bq18, at0, at1, ho0, ho1, atf0, atf1, hof0, hof1, atz, hoz, ⟨_, o1⟩, ⟨_, o3⟩, ⟨_, o5⟩, ⟨_, o7⟩⟩
            case round =>
              clear bq18 at0 at1 ho0 ho1 atf0 atf1 hof0 hof1 atz hoz o1 o3 o5 o7
              obtain ⟨i, hit, rfl, hbw, at0, at1, ho0, ho1, atf0, atf1, hof0, hof1, atz, hoz, ⟨_, o1⟩, ⟨_, o3⟩, ⟨_, o5⟩, ⟨_, o7⟩⟩ := hrel
              by_cases hlt : i < m
              · as_aux_lemma =>
                  obtain ⟨p, hp⟩ : ∃ p, D1[i]? = some p := ⟨_, List.getElem?_eq_getElem (by rw [M1.out]; exact hlt)⟩
                  obtain ⟨q, hq⟩ : ∃ q, D2[i]? = some q := ⟨_, List.getElem?_eq_getElem (by rw [M3.out]; exact hlt)⟩
                  obtain ⟨r, hr⟩ : ∃ r, TR[i]? = some r := ⟨_, List.getElem?_eq_getElem (by rw [M5.out]; exact hlt)⟩
                  obtain ⟨c, hc⟩ : ∃ c, CR[i]? = some c := ⟨_, List.getElem?_eq_getElem (by rw [M7.out]; exact hlt)⟩
                  obtain ⟨gp, rfl, gpz, gpq, gpr, gpx⟩ := row_at fDepot_len M1.out o1 hp
                  obtain ⟨gq, rfl, gqz, gqq, gqr, gqx⟩ := row_at fDepot_len M3.out o3 hq
                  obtain ⟨gr, rfl, grz, grq, grr, grx⟩ := row_at fInt_len M5.out o5 hr
                  obtain ⟨gc, rfl, gcz, gcq, gcr, gcx⟩ := row_at fAmt_len M7.out o7 hc
                  have hh := HAT.out i hlt
                  rw [show D1.getD i default = p by rw [List.getD_eq_getElem?_getD, hp]; rfl] at hh
                  rw [show D2.getD i default = q by rw [List.getD_eq_getElem?_getD, hq]; rfl] at hh
                  rw [show TR.getD i default = r by rw [List.getD_eq_getElem?_getD, hr]; rfl] at hh
                  rw [show CR.getD i default = c by rw [List.getD_eq_getElem?_getD, hc]; rfl] at hh
                  have HN0 := Lib.hid (show (atD D1 (i + 1)).1 = p.a by simp [atD, hp])
                  have HN1 := Lib.hid (show (atD D1 (i + 1)).2 = p.b by simp [atD, hp])
                  have HN2 := Lib.hid (show (atD D2 (i + 1)).1 = q.a by simp [atD, hq])
                  have HN3 := Lib.hid (show (atD D2 (i + 1)).2 = q.b by simp [atD, hq])
                  clear hp hq hr hc
                  obtain ⟨pa, pb, pc, pd⟩ := p; obtain ⟨qa, qb, qc, qd⟩ := q; obtain ⟨ca, cb⟩ := c
                  dsimp only at *
                  have p0 := gpx 0 pa rfl
                  have p1 := gpx 1 pb rfl
                  have p2 := gpx 2 pc rfl
                  have p3 := gpx 3 pd rfl
                  rw [Nat.add_zero] at p0
                  have q0 := gqx 0 qa rfl
                  have q1 := gqx 1 qb rfl
                  have q2 := gqx 2 qc rfl
                  have q3 := gqx 3 qd rfl
                  rw [Nat.add_zero] at q0
                  have r0 := grx 0 r rfl
                  rw [Nat.mul_one, Nat.add_zero] at r0
                  have c0 := gcx 0 ca rfl; have c1 := gcx 1 cb rfl
                  rw [Nat.add_zero] at c0
                  clear gpx gqx grx gcx
                  have ngpt : gp ≠ w16.heap.size := fun e => neto1 (by rw [e]; rfl)
                  have ngph : gp ≠ w17.heap.size := fun e => neho1 (by rw [e]; rfl)
                  have ngqt : gq ≠ w16.heap.size := fun e => neto3 (by rw [e]; rfl)
                  have ngqh : gq ≠ w17.heap.size := fun e => neho3 (by rw [e]; rfl)
                  have ngrt : gr ≠ w16.heap.size := fun e => neto5 (by rw [e]; rfl)
                  have ngrh : gr ≠ w17.heap.size := fun e => neho5 (by rw [e]; rfl)
                  have ngct : gc ≠ w16.heap.size := fun e => neto7 (by rw [e]; rfl)
                  have ngch : gc ≠ w17.heap.size := fun e => neho7 (by rw [e]; rfl)
                  simp only [Bool.and_eq_true, beq_iff_eq] at hh
                  obtain ⟨⟨⟨⟨⟨⟨⟨⟨⟨⟨c1_, c2_⟩, c3_⟩, c4_⟩, c5_⟩, c6_⟩, c7_⟩, c8_⟩, c9_⟩, c10_⟩, c11_⟩ := hh
                  have C1 := Lib.hid (sub_con c1_); have C2 := Lib.hid (is_con c2_); have C3 := Lib.hid (sub_con c3_); have C4 := Lib.hid (is_con c4_); have C5 := Lib.hid (is_con c5_); have C6 := Lib.hid c6_; have C7 := Lib.hid (is_con c7_); have C8 := Lib.hid (mul_con c8_); have C9 := Lib.hid (sub_con c9_); have C10 := fun W => add_con c10_ W; rw [c11_] at C10; replace C10 := Lib.hid C10
                  clear c1_ c2_ c3_ c4_ c5_ c6_ c7_ c8_ c9_ c10_ c11_
                  generalize atD D1 i = A at *; generalize atD D2 i = B at *
                  obtain ⟨A1, A2⟩ := A; obtain ⟨B1, B2⟩ := B
                  dsimp only at *
                  generalize mulR ca cb ((m : Int) - (i : Int)) 1 = Lv at *
                  generalize subR pa pb A1 A2 = X at *; generalize subR qa qb B1 B2 = Y at *
                  obtain ⟨X1, X2⟩ := X; obtain ⟨Y1, Y2⟩ := Y; obtain ⟨L1, L2⟩ := Lv
                  dsimp only at *
                  generalize subR 1 1 X1 X2 = Z at *
                  obtain ⟨Z1, Z2⟩ := Z
                  dsimp only at *
                  rw [C6.out] at r0
                  have hi20 : i ≤ 20 := by omega
                  have hkk := mul_bd ((m : Int) - i) ((m : Int) - i) (by omega) (by omega) (by omega) (by omega)
                  go_wp2_with fail; refine (C1.out _).mono ?_; rintro e w19 ⟨rfl, hb19⟩
                  have f19 : Below wr.heap.size wr w19 := bstep (show Below wr.heap.size wr _ by (repeat (first | with_reducible exact Below.refl _ _ | with_reducible assumption | with_reducible refine balloc ?_ _ | with_reducible refine bdrew ?_ | with_reducible refine below_drewN ?_ _ | with_reducible refine bset ?_ ?_ _ | with_reducible exact Nat.le_refl _ | with_reducible refine bsize ?_ | (dsimp only; refine Nat.le_trans ?_ (Nat.le_add_right _ _)) | with_reducible refine Nat.le_trans ?_ (Nat.le_add_right _ _) | (with_reducible refine bstep ?_ (by assumption))))) hb19
                  have d0 : w19.cell? ⟨wr.heap.size, 0, none⟩ = some (.int .i64 pa) := (hb19.cell (p := ⟨wr.heap.size, 0, none⟩) (by first | (simp; done) | (simp; omega))).trans (by first | (simp [go_sem]; done) | (simp [go_sem, *]; done))
                  have d1 : w19.cell? ⟨wr.heap.size, 1, none⟩ = some (.int .i64 pb) := (hb19.cell (p := ⟨wr.heap.size, 1, none⟩) (by first | (simp; done) | (simp; omega))).trans (by first | (simp [go_sem]; done) | (simp [go_sem, *]; done))
                  have d2 : w19.cell? ⟨wr.heap.size, 2, none⟩ = some (.int .i64 pc) := (hb19.cell (p := ⟨wr.heap.size, 2, none⟩) (by first | (simp; done) | (simp; omega))).trans (by first | (simp [go_sem]; done) | (simp [go_sem, *]; done))
                  have d3 : w19.cell? ⟨wr.heap.size, 3, none⟩ = some (.int .i64 pd) := (hb19.cell (p := ⟨wr.heap.size, 3, none⟩) (by first | (simp; done) | (simp; omega))).trans (by first | (simp [go_sem]; done) | (simp [go_sem, *]; done))
                  have dz : wr.heap.size < w19.heap.size := Nat.lt_of_lt_of_le (by first | (simp; done) | (simp; omega)) hb19.size
                  replace at0 := keepa f19 atz at0
                  replace at1 := keepa f19 atz at1
                  replace ho0 := keepa f19 hoz ho0
                  replace ho1 := keepa f19 hoz ho1
                  replace p0 := keepa f19 gpz p0
                  replace p1 := keepa f19 gpz p1
                  replace p2 := keepa f19 gpz p2
                  replace p3 := keepa f19 gpz p3
                  replace q0 := keepa f19 gqz q0
                  replace q1 := keepa f19 gqz q1
                  replace q2 := keepa f19 gqz q2
                  replace q3 := keepa f19 gqz q3
                  replace r0 := keepa f19 grz r0
                  replace c0 := keepa f19 gcz c0
                  replace c1 := keepa f19 gcz c1
                  replace atf0 := keepz f19 atz atf0
                  replace atf1 := keepz f19 atz atf1
                  replace hof0 := keepz f19 hoz hof0
                  replace hof1 := keepz f19 hoz hof1
                  replace atz := Nat.lt_of_lt_of_le atz f19.size
                  replace hoz := Nat.lt_of_lt_of_le hoz f19.size
                  replace gpz := Nat.lt_of_lt_of_le gpz f19.size
                  replace gqz := Nat.lt_of_lt_of_le gqz f19.size
                  replace grz := Nat.lt_of_lt_of_le grz f19.size
                  replace gcz := Nat.lt_of_lt_of_le gcz f19.size
                  replace o1 := ownsRow_below o1 f19
                  replace o3 := ownsRow_below o3 f19
                  replace o5 := ownsRow_below o5 f19
                  replace o7 := ownsRow_below o7 f19
                  have bq19 := bstep hbw f19
                  clear hb19 f19 hbw
                  clear p0 p1 p2 p3
                  go_upto_region 29 with fail
                  refine (fun (h : ∀ V, V = _ → Code.wp _ _ _ _ V) => h _ rfl) ?_
                  intro w20 hV20
                  have f20 : Below w19.heap.size w19 w20 := by rw [hV20]; (repeat (first | with_reducible exact Below.refl _ _ | with_reducible assumption | with_reducible refine balloc ?_ _ | with_reducible refine bdrew ?_ | with_reducible refine below_drewN ?_ _ | with_reducible refine bset ?_ ?_ _ | with_reducible exact Nat.le_refl _ | with_reducible refine bsize ?_ | (dsimp only; refine Nat.le_trans ?_ (Nat.le_add_right _ _)) | with_reducible refine Nat.le_trans ?_ (Nat.le_add_right _ _) | (with_reducible refine bstep ?_ (by assumption))))
                  have x0 : w20.cell? ⟨w19.heap.size, 0, none⟩ = some (.int .i64 X1) := by rw [hV20]; first | (simp [go_sem]; done) | (simp [go_sem, *]; done)
                  have x1 : w20.cell? ⟨w19.heap.size, 1, none⟩ = some (.int .i64 X2) := by rw [hV20]; first | (simp [go_sem]; done) | (simp [go_sem, *]; done)
                  have xz : w19.heap.size < w20.heap.size := by rw [hV20]; first | (simp; done) | (simp; omega)
                  replace at0 := keepa f20 atz at0
                  replace at1 := keepa f20 atz at1
                  replace ho0 := keepa f20 hoz ho0
                  replace ho1 := keepa f20 hoz ho1
                  replace q0 := keepa f20 gqz q0
                  replace q1 := keepa f20 gqz q1
                  replace q2 := keepa f20 gqz q2
                  replace q3 := keepa f20 gqz q3
                  replace r0 := keepa f20 grz r0
                  replace c0 := keepa f20 gcz c0
                  replace c1 := keepa f20 gcz c1
                  replace d0 := keepa f20 dz d0
                  replace d1 := keepa f20 dz d1
                  replace d2 := keepa f20 dz d2
                  replace d3 := keepa f20 dz d3
                  replace atf0 := keepz f20 atz atf0
                  replace atf1 := keepz f20 atz atf1
                  replace hof0 := keepz f20 hoz hof0
                  replace hof1 := keepz f20 hoz hof1
                  replace atz := Nat.lt_of_lt_of_le atz f20.size
                  replace hoz := Nat.lt_of_lt_of_le hoz f20.size
                  replace gpz := Nat.lt_of_lt_of_le gpz f20.size
                  replace gqz := Nat.lt_of_lt_of_le gqz f20.size
                  replace grz := Nat.lt_of_lt_of_le grz f20.size
                  replace gcz := Nat.lt_of_lt_of_le gcz f20.size
                  replace dz := Nat.lt_of_lt_of_le dz f20.size
                  replace o1 := ownsRow_below o1 f20
                  replace o3 := ownsRow_below o3 f20
                  replace o5 := ownsRow_below o5 f20
                  replace o7 := ownsRow_below o7 f20
                  have bq20 := bstep bq19 f20
                  clear hV20 f20 bq19
                  go_upto_region 29 with fail
                  go_cut [34, 35] (fun sp sb wx => ∃ g0 : Nat, sp = .pointer (some ⟨g0, 0, none⟩) ∧ sb = .bool true ∧ wx.cell? ⟨g0, 0, none⟩ = some (.int .i64 Y1) ∧ wx.cell? ⟨g0, 1, none⟩ = some (.int .i64 Y2) ∧ g0 < wx.heap.size ∧ Below w20.heap.size w20 wx)
                  case first =>
                    have hS1 := Lib.hid (fun (W : World) (h : Below w20.heap.size w20 W) => (⟨h, keepa (W0 := w20) h gqz q0, keepa (W0 := w20) h gqz q1, keepa (W0 := w20) h hoz ho0, keepa (W0 := w20) h hoz ho1⟩ : Below w20.heap.size w20 W ∧ W.cell? ⟨gq, i * 4, none⟩ = some (.int .i64 qa) ∧ W.cell? ⟨gq, i * 4 + 1, none⟩ = some (.int .i64 qb) ∧ W.cell? ⟨w17.heap.size, 0, none⟩ = some (.int .i64 B1) ∧ W.cell? ⟨w17.heap.size, 1, none⟩ = some (.int .i64 B2)))
                    clear at0 at1 ho0 ho1 q0 q1 q2 q3 r0 c0 c1 d0 d1 d2 d3 x0 x1 o1 o3 o5 o7 atf0 atf1 hof0 hof1 atz hoz gpz gqz grz gcz dz xz bq20
                    go_region_held3 (fun W => Below w20.heap.size w20 W ∧ W.cell? ⟨gq, i * 4, none⟩ = some (.int .i64 qa) ∧ W.cell? ⟨gq, i * 4 + 1, none⟩ = some (.int .i64 qb) ∧ W.cell? ⟨w17.heap.size, 0, none⟩ = some (.int .i64 B1) ∧ W.cell? ⟨w17.heap.size, 1, none⟩ = some (.int .i64 B2)) ((refine hS1.out _ ?_; first | with_reducible assumption | ((repeat (first | with_reducible exact Below.refl _ _ | with_reducible assumption | with_reducible refine balloc ?_ _ | with_reducible refine bdrew ?_ | with_reducible refine below_drewN ?_ _ | with_reducible refine bset ?_ ?_ _ | with_reducible exact Nat.le_refl _ | with_reducible refine bsize ?_ | (dsimp only; refine Nat.le_trans ?_ (Nat.le_add_right _ _)) | with_reducible refine Nat.le_trans ?_ (Nat.le_add_right _ _) | (with_reducible refine bstep ?_ (by assumption)))); done))) (first | (go_at_call 28; refine Calls.mono (C3.out _) ?_; rintro e w3 ⟨rfl, hb3⟩; (try have fr := Res8.later (by first | with_reducible assumption | with_reducible exact Res8.drew (by with_reducible assumption) | exact Res8.newd _ _ _ _ | exact Res8.new _ _ _ _ | exact Res8.drew (Res8.newd _ _ _ _) | exact Res8.drew (Res8.new _ _ _ _)) hb3); (try (have fr2 := fr; obtain ⟨rx, ry, r1, r2, r3, r4, rz⟩ := fr2)); (have f0 := bstep (by first | with_reducible assumption | ((repeat (first | with_reducible exact Below.refl _ _ | with_reducible assumption | with_reducible refine balloc ?_ _ | with_reducible refine bdrew ?_ | with_reducible refine below_drewN ?_ _ | with_reducible refine bset ?_ ?_ _ | with_reducible exact Nat.le_refl _ | with_reducible refine bsize ?_ | (dsimp only; refine Nat.le_trans ?_ (Nat.le_add_right _ _)) | with_reducible refine Nat.le_trans ?_ (Nat.le_add_right _ _) | (with_reducible refine bstep ?_ (by assumption)))); done) : Below w20.heap.size w20 _) hb3); (have f1 := hS1.out _ f0); go_split_ands))
                    all_goals (go_wp2_with fail; go_meet)
                    all_goals refine ⟨_, rfl, rfl, ?_, ?_, ?_, ?_⟩
                    all_goals first | ((repeat (first | with_reducible exact Below.refl _ _ | with_reducible assumption | with_reducible refine balloc ?_ _ | with_reducible refine bdrew ?_ | with_reducible refine below_drewN ?_ _ | with_reducible refine bset ?_ ?_ _ | with_reducible exact Nat.le_refl _ | with_reducible refine bsize ?_ | (dsimp only; refine Nat.le_trans ?_ (Nat.le_add_right _ _)) | with_reducible refine Nat.le_trans ?_ (Nat.le_add_right _ _) | (with_reducible refine bstep ?_ (by assumption)))); done) | (simp [go_sem, r1, r2, r3, r4, rz]; done) | (simp [go_sem]; done) | (simp; omega)
                  case rest =>
                    obtain ⟨yg, rfl, rfl, y0, y1, yz, hgb⟩ := hcut
                    replace at0 := keepa hgb atz at0
                    replace at1 := keepa hgb atz at1
                    replace ho0 := keepa hgb hoz ho0
                    replace ho1 := keepa hgb hoz ho1
                    replace q0 := keepa hgb gqz q0
                    replace q1 := keepa hgb gqz q1
                    replace q2 := keepa hgb gqz q2
                    replace q3 := keepa hgb gqz q3
                    replace r0 := keepa hgb grz r0
                    replace c0 := keepa hgb gcz c0
                    replace c1 := keepa hgb gcz c1
                    replace d0 := keepa hgb dz d0
                    replace d1 := keepa hgb dz d1
                    replace d2 := keepa hgb dz d2
                    replace d3 := keepa hgb dz d3
                    replace x0 := keepa hgb xz x0
                    replace x1 := keepa hgb xz x1
                    replace atf0 := keepz hgb atz atf0
                    replace atf1 := keepz hgb atz atf1
                    replace hof0 := keepz hgb hoz hof0
                    replace hof1 := keepz hgb hoz hof1
                    replace atz := Nat.lt_of_lt_of_le atz hgb.size
                    replace hoz := Nat.lt_of_lt_of_le hoz hgb.size
                    replace gpz := Nat.lt_of_lt_of_le gpz hgb.size
                    replace gqz := Nat.lt_of_lt_of_le gqz hgb.size
                    replace grz := Nat.lt_of_lt_of_le grz hgb.size
                    replace gcz := Nat.lt_of_lt_of_le gcz hgb.size
                    replace dz := Nat.lt_of_lt_of_le dz hgb.size
                    replace xz := Nat.lt_of_lt_of_le xz hgb.size
                    replace o1 := ownsRow_below o1 hgb
                    replace o3 := ownsRow_below o3 hgb
                    replace o5 := ownsRow_below o5 hgb
                    replace o7 := ownsRow_below o7 hgb
                    have bq21 := bstep bq20 hgb
                    clear hgb bq20
                    go_wp2_with fail; refine (C2.out _).mono ?_; rintro e w22 ⟨rfl, hb22⟩
                    have f22 : Below wc.heap.size wc w22 := bstep (show Below wc.heap.size wc _ by (repeat (first | with_reducible exact Below.refl _ _ | with_reducible assumption | with_reducible refine balloc ?_ _ | with_reducible refine bdrew ?_ | with_reducible refine below_drewN ?_ _ | with_reducible refine bset ?_ ?_ _ | with_reducible exact Nat.le_refl _ | with_reducible refine bsize ?_ | (dsimp only; refine Nat.le_trans ?_ (Nat.le_add_right _ _)) | with_reducible refine Nat.le_trans ?_ (Nat.le_add_right _ _) | (with_reducible refine bstep ?_ (by assumption))))) hb22
                    replace at0 := keepa f22 atz at0
                    replace at1 := keepa f22 atz at1
                    replace ho0 := keepa f22 hoz ho0
                    replace ho1 := keepa f22 hoz ho1
                    replace q0 := keepa f22 gqz q0
                    replace q1 := keepa f22 gqz q1
                    replace q2 := keepa f22 gqz q2
                    replace q3 := keepa f22 gqz q3
                    replace r0 := keepa f22 grz r0
                    replace c0 := keepa f22 gcz c0
                    replace c1 := keepa f22 gcz c1
                    replace d0 := keepa f22 dz d0
                    replace d1 := keepa f22 dz d1
                    replace d2 := keepa f22 dz d2
                    replace d3 := keepa f22 dz d3
                    replace x0 := keepa f22 xz x0
                    replace x1 := keepa f22 xz x1
                    replace y0 := keepa f22 yz y0
                    replace y1 := keepa f22 yz y1
                    replace atf0 := keepz f22 atz atf0
                    replace atf1 := keepz f22 atz atf1
                    replace hof0 := keepz f22 hoz hof0
                    replace hof1 := keepz f22 hoz hof1
                    replace atz := Nat.lt_of_lt_of_le atz f22.size
                    replace hoz := Nat.lt_of_lt_of_le hoz f22.size
                    replace gpz := Nat.lt_of_lt_of_le gpz f22.size
                    replace gqz := Nat.lt_of_lt_of_le gqz f22.size
                    replace grz := Nat.lt_of_lt_of_le grz f22.size
                    replace gcz := Nat.lt_of_lt_of_le gcz f22.size
                    replace dz := Nat.lt_of_lt_of_le dz f22.size
                    replace xz := Nat.lt_of_lt_of_le xz f22.size
                    replace yz := Nat.lt_of_lt_of_le yz f22.size
                    replace o1 := ownsRow_below o1 f22
                    replace o3 := ownsRow_below o3 f22
                    replace o5 := ownsRow_below o5 f22
                    replace o7 := ownsRow_below o7 f22
                    have bq22 := bstep bq21 f22
                    clear hb22 f22 bq21
                    go_wp2_with fail; refine (C4.out _).mono ?_; rintro e w23 ⟨rfl, hb23⟩
                    have f23 : Below w22.heap.size w22 w23 := bstep (show Below w22.heap.size w22 _ by (repeat (first | with_reducible exact Below.refl _ _ | with_reducible assumption | with_reducible refine balloc ?_ _ | with_reducible refine bdrew ?_ | with_reducible refine below_drewN ?_ _ | with_reducible refine bset ?_ ?_ _ | with_reducible exact Nat.le_refl _ | with_reducible refine bsize ?_ | (dsimp only; refine Nat.le_trans ?_ (Nat.le_add_right _ _)) | with_reducible refine Nat.le_trans ?_ (Nat.le_add_right _ _) | (with_reducible refine bstep ?_ (by assumption))))) hb23
                    replace at0 := keepa f23 atz at0
                    replace at1 := keepa f23 atz at1
                    replace ho0 := keepa f23 hoz ho0
                    replace ho1 := keepa f23 hoz ho1
                    replace q0 := keepa f23 gqz q0
                    replace q1 := keepa f23 gqz q1
                    replace q2 := keepa f23 gqz q2
                    replace q3 := keepa f23 gqz q3
                    replace r0 := keepa f23 grz r0
                    replace c0 := keepa f23 gcz c0
                    replace c1 := keepa f23 gcz c1
                    replace d0 := keepa f23 dz d0
                    replace d1 := keepa f23 dz d1
                    replace d2 := keepa f23 dz d2
                    replace d3 := keepa f23 dz d3
                    replace x0 := keepa f23 xz x0
                    replace x1 := keepa f23 xz x1
                    replace y0 := keepa f23 yz y0
                    replace y1 := keepa f23 yz y1
                    replace atf0 := keepz f23 atz atf0
                    replace atf1 := keepz f23 atz atf1
                    replace hof0 := keepz f23 hoz hof0
                    replace hof1 := keepz f23 hoz hof1
                    replace atz := Nat.lt_of_lt_of_le atz f23.size
                    replace hoz := Nat.lt_of_lt_of_le hoz f23.size
                    replace gpz := Nat.lt_of_lt_of_le gpz f23.size
                    replace gqz := Nat.lt_of_lt_of_le gqz f23.size
                    replace grz := Nat.lt_of_lt_of_le grz f23.size
                    replace gcz := Nat.lt_of_lt_of_le gcz f23.size
                    replace dz := Nat.lt_of_lt_of_le dz f23.size
                    replace xz := Nat.lt_of_lt_of_le xz f23.size
                    replace yz := Nat.lt_of_lt_of_le yz f23.size
                    replace o1 := ownsRow_below o1 f23
                    replace o3 := ownsRow_below o3 f23
                    replace o5 := ownsRow_below o5 f23
                    replace o7 := ownsRow_below o7 f23
                    have bq23 := bstep bq22 f23
                    clear hb23 f23 bq22
                    go_wp2_with fail; refine (C5.out _).mono ?_; rintro e w24 ⟨rfl, hb24⟩
                    have f24 : Below w23.heap.size w23 w24 := bstep (show Below w23.heap.size w23 _ by (repeat (first | with_reducible exact Below.refl _ _ | with_reducible assumption | with_reducible refine balloc ?_ _ | with_reducible refine bdrew ?_ | with_reducible refine below_drewN ?_ _ | with_reducible refine bset ?_ ?_ _ | with_reducible exact Nat.le_refl _ | with_reducible refine bsize ?_ | (dsimp only; refine Nat.le_trans ?_ (Nat.le_add_right _ _)) | with_reducible refine Nat.le_trans ?_ (Nat.le_add_right _ _) | (with_reducible refine bstep ?_ (by assumption))))) hb24
                    replace at0 := keepa f24 atz at0
                    replace at1 := keepa f24 atz at1
                    replace ho0 := keepa f24 hoz ho0
                    replace ho1 := keepa f24 hoz ho1
                    replace q0 := keepa f24 gqz q0
                    replace q1 := keepa f24 gqz q1
                    replace q2 := keepa f24 gqz q2
                    replace q3 := keepa f24 gqz q3
                    replace r0 := keepa f24 grz r0
                    replace c0 := keepa f24 gcz c0
                    replace c1 := keepa f24 gcz c1
                    replace d0 := keepa f24 dz d0
                    replace d1 := keepa f24 dz d1
                    replace d2 := keepa f24 dz d2
                    replace d3 := keepa f24 dz d3
                    replace x0 := keepa f24 xz x0
                    replace x1 := keepa f24 xz x1
                    replace y0 := keepa f24 yz y0
                    replace y1 := keepa f24 yz y1
                    replace atf0 := keepz f24 atz atf0
                    replace atf1 := keepz f24 atz atf1
                    replace hof0 := keepz f24 hoz hof0
                    replace hof1 := keepz f24 hoz hof1
                    replace atz := Nat.lt_of_lt_of_le atz f24.size
                    replace hoz := Nat.lt_of_lt_of_le hoz f24.size
                    replace gpz := Nat.lt_of_lt_of_le gpz f24.size
                    replace gqz := Nat.lt_of_lt_of_le gqz f24.size
                    replace grz := Nat.lt_of_lt_of_le grz f24.size
                    replace gcz := Nat.lt_of_lt_of_le gcz f24.size
                    replace dz := Nat.lt_of_lt_of_le dz f24.size
                    replace xz := Nat.lt_of_lt_of_le xz f24.size
                    replace yz := Nat.lt_of_lt_of_le yz f24.size
                    replace o1 := ownsRow_below o1 f24
                    replace o3 := ownsRow_below o3 f24
                    replace o5 := ownsRow_below o5 f24
                    replace o7 := ownsRow_below o7 f24
                    have bq24 := bstep bq23 f24
                    clear hb24 f24 bq23
                    go_wp2_with fail; refine (C7.out _).mono ?_; rintro e w25 ⟨rfl, hb25⟩
                    have f25 : Below w24.heap.size w24 w25 := bstep (show Below w24.heap.size w24 _ by (repeat (first | with_reducible exact Below.refl _ _ | with_reducible assumption | with_reducible refine balloc ?_ _ | with_reducible refine bdrew ?_ | with_reducible refine below_drewN ?_ _ | with_reducible refine bset ?_ ?_ _ | with_reducible exact Nat.le_refl _ | with_reducible refine bsize ?_ | (dsimp only; refine Nat.le_trans ?_ (Nat.le_add_right _ _)) | with_reducible refine Nat.le_trans ?_ (Nat.le_add_right _ _) | (with_reducible refine bstep ?_ (by assumption))))) hb25
                    replace at0 := keepa f25 atz at0
                    replace at1 := keepa f25 atz at1
                    replace ho0 := keepa f25 hoz ho0
                    replace ho1 := keepa f25 hoz ho1
                    replace q0 := keepa f25 gqz q0
                    replace q1 := keepa f25 gqz q1
                    replace q2 := keepa f25 gqz q2
                    replace q3 := keepa f25 gqz q3
                    replace r0 := keepa f25 grz r0
                    replace c0 := keepa f25 gcz c0
                    replace c1 := keepa f25 gcz c1
                    replace d0 := keepa f25 dz d0
                    replace d1 := keepa f25 dz d1
                    replace d2 := keepa f25 dz d2
                    replace d3 := keepa f25 dz d3
                    replace x0 := keepa f25 xz x0
                    replace x1 := keepa f25 xz x1
                    replace y0 := keepa f25 yz y0
                    replace y1 := keepa f25 yz y1
                    replace atf0 := keepz f25 atz atf0
                    replace atf1 := keepz f25 atz atf1
                    replace hof0 := keepz f25 hoz hof0
                    replace hof1 := keepz f25 hoz hof1
                    replace atz := Nat.lt_of_lt_of_le atz f25.size
                    replace hoz := Nat.lt_of_lt_of_le hoz f25.size
                    replace gpz := Nat.lt_of_lt_of_le gpz f25.size
                    replace gqz := Nat.lt_of_lt_of_le gqz f25.size
                    replace grz := Nat.lt_of_lt_of_le grz f25.size
                    replace gcz := Nat.lt_of_lt_of_le gcz f25.size
                    replace dz := Nat.lt_of_lt_of_le dz f25.size
                    replace xz := Nat.lt_of_lt_of_le xz f25.size
                    replace yz := Nat.lt_of_lt_of_le yz f25.size
                    replace o1 := ownsRow_below o1 f25
                    replace o3 := ownsRow_below o3 f25
                    replace o5 := ownsRow_below o5 f25
                    replace o7 := ownsRow_below o7 f25
                    have bq25 := bstep bq24 f25
                    clear hb25 f25 bq24
                    clear y0 y1 yz
                    go_wp2_with fail; refine (C8.out _).mono ?_; rintro e w26 ⟨rfl, hb26⟩
                    have f26 : Below w25.heap.size w25 w26 := bstep (show Below w25.heap.size w25 _ by (repeat (first | with_reducible exact Below.refl _ _ | with_reducible assumption | with_reducible refine balloc ?_ _ | with_reducible refine bdrew ?_ | with_reducible refine below_drewN ?_ _ | with_reducible refine bset ?_ ?_ _ | with_reducible exact Nat.le_refl _ | with_reducible refine bsize ?_ | (dsimp only; refine Nat.le_trans ?_ (Nat.le_add_right _ _)) | with_reducible refine Nat.le_trans ?_ (Nat.le_add_right _ _) | (with_reducible refine bstep ?_ (by assumption))))) hb26
                    replace at0 := keepa f26 atz at0
                    replace at1 := keepa f26 atz at1
                    replace ho0 := keepa f26 hoz ho0
                    replace ho1 := keepa f26 hoz ho1
                    replace q0 := keepa f26 gqz q0
                    replace q1 := keepa f26 gqz q1
                    replace q2 := keepa f26 gqz q2
                    replace q3 := keepa f26 gqz q3
                    replace r0 := keepa f26 grz r0
                    replace c0 := keepa f26 gcz c0
                    replace c1 := keepa f26 gcz c1
                    replace d0 := keepa f26 dz d0
                    replace d1 := keepa f26 dz d1
                    replace d2 := keepa f26 dz d2
                    replace d3 := keepa f26 dz d3
                    replace x0 := keepa f26 xz x0
                    replace x1 := keepa f26 xz x1
                    replace atf0 := keepz f26 atz atf0
                    replace atf1 := keepz f26 atz atf1
                    replace hof0 := keepz f26 hoz hof0
                    replace hof1 := keepz f26 hoz hof1
                    replace atz := Nat.lt_of_lt_of_le atz f26.size
                    replace hoz := Nat.lt_of_lt_of_le hoz f26.size
                    replace gpz := Nat.lt_of_lt_of_le gpz f26.size
                    replace gqz := Nat.lt_of_lt_of_le gqz f26.size
                    replace grz := Nat.lt_of_lt_of_le grz f26.size
                    replace gcz := Nat.lt_of_lt_of_le gcz f26.size
                    replace dz := Nat.lt_of_lt_of_le dz f26.size
                    replace xz := Nat.lt_of_lt_of_le xz f26.size
                    replace o1 := ownsRow_below o1 f26
                    replace o3 := ownsRow_below o3 f26
                    replace o5 := ownsRow_below o5 f26
                    replace o7 := ownsRow_below o7 f26
                    have bq26 := bstep bq25 f26
                    clear hb26 f26 bq25
                    go_wp2_with fail; refine (C9.out _).mono ?_; rintro e w27 ⟨rfl, hb27⟩
                    have f27 : Below w26.heap.size w26 w27 := bstep (show Below w26.heap.size w26 _ by (repeat (first | with_reducible exact Below.refl _ _ | with_reducible assumption | with_reducible refine balloc ?_ _ | with_reducible refine bdrew ?_ | with_reducible refine below_drewN ?_ _ | with_reducible refine bset ?_ ?_ _ | with_reducible exact Nat.le_refl _ | with_reducible refine bsize ?_ | (dsimp only; refine Nat.le_trans ?_ (Nat.le_add_right _ _)) | with_reducible refine Nat.le_trans ?_ (Nat.le_add_right _ _) | (with_reducible refine bstep ?_ (by assumption))))) hb27
                    have l0 : w27.cell? ⟨w26.heap.size, 0, none⟩ = some (.int .i64 L1) := (hb27.cell (p := ⟨w26.heap.size, 0, none⟩) (by first | (simp; done) | (simp; omega))).trans (by first | (simp [go_sem]; done) | (simp [go_sem, *]; done))
                    have l1 : w27.cell? ⟨w26.heap.size, 1, none⟩ = some (.int .i64 L2) := (hb27.cell (p := ⟨w26.heap.size, 1, none⟩) (by first | (simp; done) | (simp; omega))).trans (by first | (simp [go_sem]; done) | (simp [go_sem, *]; done))
                    have lz : w26.heap.size < w27.heap.size := Nat.lt_of_lt_of_le (by first | (simp; done) | (simp; omega)) hb27.size
                    replace at0 := keepa f27 atz at0
                    replace at1 := keepa f27 atz at1
                    replace ho0 := keepa f27 hoz ho0
                    replace ho1 := keepa f27 hoz ho1
                    replace q0 := keepa f27 gqz q0
                    replace q1 := keepa f27 gqz q1
                    replace q2 := keepa f27 gqz q2
                    replace q3 := keepa f27 gqz q3
                    replace r0 := keepa f27 grz r0
                    replace c0 := keepa f27 gcz c0
                    replace c1 := keepa f27 gcz c1
                    replace d0 := keepa f27 dz d0
                    replace d1 := keepa f27 dz d1
                    replace d2 := keepa f27 dz d2
                    replace d3 := keepa f27 dz d3
                    replace x0 := keepa f27 xz x0
                    replace x1 := keepa f27 xz x1
                    replace atf0 := keepz f27 atz atf0
                    replace atf1 := keepz f27 atz atf1
                    replace hof0 := keepz f27 hoz hof0
                    replace hof1 := keepz f27 hoz hof1
                    replace atz := Nat.lt_of_lt_of_le atz f27.size
                    replace hoz := Nat.lt_of_lt_of_le hoz f27.size
                    replace gpz := Nat.lt_of_lt_of_le gpz f27.size
                    replace gqz := Nat.lt_of_lt_of_le gqz f27.size
                    replace grz := Nat.lt_of_lt_of_le grz f27.size
                    replace gcz := Nat.lt_of_lt_of_le gcz f27.size
                    replace dz := Nat.lt_of_lt_of_le dz f27.size
                    replace xz := Nat.lt_of_lt_of_le xz f27.size
                    replace o1 := ownsRow_below o1 f27
                    replace o3 := ownsRow_below o3 f27
                    replace o5 := ownsRow_below o5 f27
                    replace o7 := ownsRow_below o7 f27
                    have bq27 := bstep bq26 f27
                    clear hb27 f27 bq26
                    go_wp2_with fail; refine (C10.out _).mono ?_; rintro e w28 ⟨rfl, hb28⟩
                    have f28 : Below w27.heap.size w27 w28 := bstep (show Below w27.heap.size w27 _ by (repeat (first | with_reducible exact Below.refl _ _ | with_reducible assumption | with_reducible refine balloc ?_ _ | with_reducible refine bdrew ?_ | with_reducible refine below_drewN ?_ _ | with_reducible refine bset ?_ ?_ _ | with_reducible exact Nat.le_refl _ | with_reducible refine bsize ?_ | (dsimp only; refine Nat.le_trans ?_ (Nat.le_add_right _ _)) | with_reducible refine Nat.le_trans ?_ (Nat.le_add_right _ _) | (with_reducible refine bstep ?_ (by assumption))))) hb28
                    have zz0 : w28.cell? ⟨w27.heap.size, 0, none⟩ = some (.int .i64 Z1) := (hb28.cell (p := ⟨w27.heap.size, 0, none⟩) (by first | (simp; done) | (simp; omega))).trans (by first | (simp [go_sem]; done) | (simp [go_sem, *]; done))
                    have zz1 : w28.cell? ⟨w27.heap.size, 1, none⟩ = some (.int .i64 Z2) := (hb28.cell (p := ⟨w27.heap.size, 1, none⟩) (by first | (simp; done) | (simp; omega))).trans (by first | (simp [go_sem]; done) | (simp [go_sem, *]; done))
                    have zzz : w27.heap.size < w28.heap.size := Nat.lt_of_lt_of_le (by first | (simp; done) | (simp; omega)) hb28.size
                    replace at0 := keepa f28 atz at0
                    replace at1 := keepa f28 atz at1
                    replace ho0 := keepa f28 hoz ho0
                    replace ho1 := keepa f28 hoz ho1
                    replace q0 := keepa f28 gqz q0
                    replace q1 := keepa f28 gqz q1
                    replace q2 := keepa f28 gqz q2
                    replace q3 := keepa f28 gqz q3
                    replace r0 := keepa f28 grz r0
                    replace c0 := keepa f28 gcz c0
                    replace c1 := keepa f28 gcz c1
                    replace d0 := keepa f28 dz d0
                    replace d1 := keepa f28 dz d1
                    replace d2 := keepa f28 dz d2
                    replace d3 := keepa f28 dz d3
                    replace x0 := keepa f28 xz x0
                    replace x1 := keepa f28 xz x1
                    replace l0 := keepa f28 lz l0
                    replace l1 := keepa f28 lz l1
                    replace atf0 := keepz f28 atz atf0
                    replace atf1 := keepz f28 atz atf1
                    replace hof0 := keepz f28 hoz hof0
                    replace hof1 := keepz f28 hoz hof1
                    replace atz := Nat.lt_of_lt_of_le atz f28.size
                    replace hoz := Nat.lt_of_lt_of_le hoz f28.size
                    replace gpz := Nat.lt_of_lt_of_le gpz f28.size
                    replace gqz := Nat.lt_of_lt_of_le gqz f28.size
                    replace grz := Nat.lt_of_lt_of_le grz f28.size
                    replace gcz := Nat.lt_of_lt_of_le gcz f28.size
                    replace dz := Nat.lt_of_lt_of_le dz f28.size
                    replace xz := Nat.lt_of_lt_of_le xz f28.size
                    replace lz := Nat.lt_of_lt_of_le lz f28.size
                    replace o1 := ownsRow_below o1 f28
                    replace o3 := ownsRow_below o3 f28
                    replace o5 := ownsRow_below o5 f28
                    replace o7 := ownsRow_below o7 f28
                    have bq28 := bstep bq27 f28
                    clear hb28 f28 bq27
                    go_wp2
                    go_roundw
                    case rel =>
                      obtain ⟨t0, t1, t2, t3, t4, t5, t6, t7, t8, t9⟩ := two_boxes _ _ _ (.int .i64 pa) (.int .i64 pb) (.int .i64 qa) (.int .i64 qb) _ _ _ _ (.cells #[.int .i64 pc, .int .i64 pd] 26) atz hoz nehatz at0 at1 ho0 ho1 atf0 atf1 hof0 hof1 _ rfl
                      exact ⟨i + 1, by omega, by go_num, balloc (bset (bset (bset (bset (by (repeat (first | with_reducible exact Below.refl _ _ | with_reducible assumption | with_reducible refine balloc ?_ _ | with_reducible refine bdrew ?_ | with_reducible refine below_drewN ?_ _ | with_reducible refine bset ?_ ?_ _ | with_reducible exact Nat.le_refl _ | with_reducible refine bsize ?_ | (dsimp only; refine Nat.le_trans ?_ (Nat.le_add_right _ _)) | with_reducible refine Nat.le_trans ?_ (Nat.le_add_right _ _) | (with_reducible refine bstep ?_ (by assumption))))) llet _) llet _) lleh _) lleh _) _, by rw [HN0.out]; exact t0, by rw [HN1.out]; exact t1, by rw [HN2.out]; exact t2, by rw [HN3.out]; exact t3, t4, t5, t6, t7, t8, t9, ⟨_, own_alloc (own_set (own_set (own_set (own_set o1 neto1 _) neto1 _) neho1 _) neho1 _) _⟩, ⟨_, own_alloc (own_set (own_set (own_set (own_set o3 neto3 _) neto3 _) neho3 _) neho3 _) _⟩, ⟨_, own_alloc (own_set (own_set (own_set (own_set o5 neto5 _) neto5 _) neho5 _) neho5 _) _⟩, ⟨_, own_alloc (own_set (own_set (own_set (own_set o7 neto7 _) neto7 _) neho7 _) neho7 _) _⟩⟩
                    case measure => first | (simp [intOf]; done) | (simp [intOf]; omega)
              · as_aux_lemma =>
                  have him : m = i := by omega
                  subst him
                  have E5 := E4.out; have HE := fun W => add_con E3.out W; rw [E5] at HE; replace HE := Lib.hid HE; clear E5
                  generalize atD D1 m = A at *
                  obtain ⟨A1, A2⟩ := A
                  dsimp only at *
                  clear ho0 ho1 hoz hof0 hof1 o1 o3 o5 o7
                  go_wp2_with fail; refine (HF.out _).mono ?_; rintro e w29 ⟨rfl, hb29⟩
                  have f29 : Below wr.heap.size wr w29 := bstep (show Below wr.heap.size wr _ by (repeat (first | with_reducible exact Below.refl _ _ | with_reducible assumption | with_reducible refine balloc ?_ _ | with_reducible refine bdrew ?_ | with_reducible refine below_drewN ?_ _ | with_reducible refine bset ?_ ?_ _ | with_reducible exact Nat.le_refl _ | with_reducible refine bsize ?_ | (dsimp only; refine Nat.le_trans ?_ (Nat.le_add_right _ _)) | with_reducible refine Nat.le_trans ?_ (Nat.le_add_right _ _) | (with_reducible refine bstep ?_ (by assumption))))) hb29
                  replace at0 := keepa f29 atz at0
                  replace at1 := keepa f29 atz at1
                  replace atf0 := keepz f29 atz atf0
                  replace atf1 := keepz f29 atz atf1
                  replace atz := Nat.lt_of_lt_of_le atz f29.size
                  have bq29 := bstep hbw f29
                  clear hb29 f29 hbw
                  go_wp2_with fail; refine (HE.out _).mono ?_; rintro e w30 ⟨rfl, hb30⟩
                  have f30 : Below w29.heap.size w29 w30 := bstep (show Below w29.heap.size w29 _ by (repeat (first | with_reducible exact Below.refl _ _ | with_reducible assumption | with_reducible refine balloc ?_ _ | with_reducible refine bdrew ?_ | with_reducible refine below_drewN ?_ _ | with_reducible refine bset ?_ ?_ _ | with_reducible exact Nat.le_refl _ | with_reducible refine bsize ?_ | (dsimp only; refine Nat.le_trans ?_ (Nat.le_add_right _ _)) | with_reducible refine Nat.le_trans ?_ (Nat.le_add_right _ _) | (with_reducible refine bstep ?_ (by assumption))))) hb30
                  have fr0 : w30.cell? ⟨w29.heap.size, 0, none⟩ = some (.int .i64 fx) := (hb30.cell (p := ⟨w29.heap.size, 0, none⟩) (by first | (simp; done) | (simp; omega))).trans (by first | (simp [go_sem]; done) | (simp [go_sem, *]; done))
                  have fr1 : w30.cell? ⟨w29.heap.size, 1, none⟩ = some (.int .i64 fy) := (hb30.cell (p := ⟨w29.heap.size, 1, none⟩) (by first | (simp; done) | (simp; omega))).trans (by first | (simp [go_sem]; done) | (simp [go_sem, *]; done))
                  have frz : w29.heap.size < w30.heap.size := Nat.lt_of_lt_of_le (by first | (simp; done) | (simp; omega)) hb30.size
                  replace at0 := keepa f30 atz at0
                  replace at1 := keepa f30 atz at1
                  replace atf0 := keepz f30 atz atf0
                  replace atf1 := keepz f30 atz atf1
                  replace atz := Nat.lt_of_lt_of_le atz f30.size
                  have bq30 := bstep bq29 f30
                  clear hb30 f30 bq29
                  go_wp2
                  go_ret
                  exact ⟨rfl, bstep hbd (show Below w.heap.size w _ by (repeat (first | with_reducible exact Below.refl _ _ | with_reducible assumption | with_reducible refine balloc ?_ _ | with_reducible refine bdrew ?_ | with_reducible refine below_drewN ?_ _ | with_reducible refine bset ?_ ?_ _ | with_reducible exact Nat.le_refl _ | with_reducible refine bsize ?_ | (dsimp only; refine Nat.le_trans ?_ (Nat.le_add_right _ _)) | with_reducible refine Nat.le_trans ?_ (Nat.le_add_right _ _) | (with_reducible refine bstep ?_ (by assumption)))))⟩
  · go_wp2
    go_ret
    exact ⟨rfl, by (repeat (first | with_reducible exact Below.refl _ _ | with_reducible assumption | with_reducible refine balloc ?_ _ | with_reducible refine bdrew ?_ | with_reducible refine below_drewN ?_ _ | with_reducible refine bset ?_ ?_ _ | with_reducible exact Nat.le_refl _ | with_reducible refine bsize ?_ | (dsimp only; refine Nat.le_trans ?_ (Nat.le_add_right _ _)) | with_reducible refine Nat.le_trans ?_ (Nat.le_add_right _ _) | (with_reducible refine bstep ?_ (by assumption))))⟩
end Go.Proofs.Ytgpbkjakmbmccaa
