/- The walk of the law FnExactLoadsForMile: for every load and every number of cans (whatever ints): the program answers as the model, and the answer owns its memory. No condition. -/
import Derived.Test.YtbhdnocdpincpaaLawBase
import Derived.Test.YtbhdnocdpincpaaRowsL
import Derived.Test.YtbhdnocdpincpaaRInt
import Derived.Test.YtbhdnocdpincpaaCanD
import Derived.Deep.RegionHeld3
import Derived.Deep.DeepCutAuto
namespace Go.Proofs.Ytbhdnocdpincpaa
open Go.ChangeShapes Go.WideShapes Go.ChangeAt Go.RowKit Go.Joins
set_option maxRecDepth 100000
set_option linter.unusedVariables false
set_option linter.unusedSimpArgs false

set_option maxHeartbeats 6400000 in
theorem loadsForMile_law (l : Int) (bl : -9223372036854775808 ≤ l ∧ l ≤ 9223372036854775807) (c : Int) (bc : -9223372036854775808 ≤ c ∧ c ≤ 9223372036854775807) (w : World)
    (hs : ∀ W : World, Calls Try.prog 13 #[.int .i64 l, .int .i64 c] W (AnsG 3 1 fInt (ldL l c) (ldB l c) W)) (hi : ∀ W : World, Calls Try.prog 14 #[.int .i64 l, .int .i64 c] W (AnsG 3 1 fInt (ldL l c) (ldB l c) W)) :
    Calls Try.prog 5 #[.int .i64 l, .int .i64 c] w fun e w' => e = .returned (.bool true) ∧ Below w.heap.size w w' := by
  have HS := Lib.hid hs
  have HI := Lib.hid hi
  clear hs hi
  have hr2 : (ldL l c).length ≤ 1048576 := by have := ldL_len l c; omega
  have hr3 : (ldL l c).length ≤ 1048576 := by have := ldL_len l c; omega
  generalize (ldL l c) = rl at *
  go_enter Try.func5, Try.ntmps5
  go_upto_region 1 with fail
  change Code.wp _ _ _ _ (w)
  have hbw : Below w.heap.size w w := Below.refl _ _
  have hS1 := Lib.hid (fun (W : World) (h : Below w.heap.size w W) => (h : Below w.heap.size w W))
  go_wp2_with fail; refine Calls.mono (ansg_at (B := w) (by first | with_reducible assumption | ((repeat (first | with_reducible exact Below.refl _ _ | with_reducible assumption | with_reducible refine balloc ?_ _ | with_reducible refine bdrew ?_ | with_reducible refine below_drewN ?_ _ | with_reducible refine bset ?_ ?_ _ | with_reducible exact Nat.le_refl _ | with_reducible refine bsize ?_ | (dsimp only; refine Nat.le_trans ?_ (Nat.le_add_right _ _)) | with_reducible refine Nat.le_trans ?_ (Nat.le_add_right _ _) | (with_reducible refine bstep ?_ (by assumption)))); done)) (HS.out _)) ?_; rintro e w2 ⟨vw2, rfl, hownw2, hbn⟩; (have f1 := hS1.out _ hbn); go_split_ands
  have hA2 := hbn
  clear hbn hS1
  have hownw := hownw2
  clear hownw2
  go_upto_region 2 with fail
  have hS2 := Lib.hid (fun (W : World) (h : Below w2.heap.size w2 W) => (h : Below w2.heap.size w2 W))
  go_wp2_with fail; refine Calls.mono (ansg_at (B := w2) (by first | with_reducible assumption | ((repeat (first | with_reducible exact Below.refl _ _ | with_reducible assumption | with_reducible refine balloc ?_ _ | with_reducible refine bdrew ?_ | with_reducible refine below_drewN ?_ _ | with_reducible refine bset ?_ ?_ _ | with_reducible exact Nat.le_refl _ | with_reducible refine bsize ?_ | (dsimp only; refine Nat.le_trans ?_ (Nat.le_add_right _ _)) | with_reducible refine Nat.le_trans ?_ (Nat.le_add_right _ _) | (with_reducible refine bstep ?_ (by assumption)))); done)) (HI.out _)) ?_; rintro e w6 ⟨vw6, rfl, hownw6, hbn⟩; (have f1 := hS2.out _ hbn); go_split_ands
  have hA6 := bstep hA2 hbn
  have ogw := own_apart hownw6 hownw (Nat.le_refl _)
  have ogw2 := own_apart' hownw6 hownw (Nat.le_refl _)
  have lg : w.heap.size ≤ w2.heap.size := hA2.size
  replace hownw := ownsRow_below hownw hbn
  have howng := hownw6
  clear hownw6 hbn hS2 hA2
  go_wp2_with fail; refine (eqr_ints _ _ _ _ _ _ hr2 howng hownw).mono ?_; rintro e w7 ⟨rfl, hb7⟩
  have hA7 := bstep hA6 hb7
  replace hownw := ownsRow_below hownw hb7
  replace howng := ownsRow_below howng hb7
  clear hb7 hA6
  go_wp2_with fail; refine (markr_ints _ _ _ 1 _ _ hr3 (by omega) (by omega) howng).mono ?_; rintro e w8 ⟨rfl, hgr, ysM, hM, hall⟩
  have hA8 : Below w.heap.size w w8 := hA7.grown hgr hA7.size (fun k e => Nat.le_trans lg (howng.lt k e).1)
  replace hownw := hownw.kept hgr ogw2
  have HYM := Lib.hid hall
  clear hgr hall howng hA7
  have hneg : ¬ (1 + (rl.length : Int) < 0) := by omega
  go_wp2_with fail; refine (heldr_ints _ _ _ 1 _ _ hr3 (by omega) (by omega) hM HYM.out).mono ?_; rintro e w9 ⟨rfl, hb9⟩
  have hA9 := bstep hA8 hb9
  replace hownw := ownsRow_below hownw hb9
  replace hM := ownsRow_below hM hb9
  clear hb9 hA8
  go_upto_region 13 with fail
  have hS3 := Lib.hid (fun (W : World) (h : Below w9.heap.size w9 W) => (h : Below w9.heap.size w9 W))
  go_wp2_with fail; refine Calls.mono (ansg_at (B := w9) (by first | with_reducible assumption | ((repeat (first | with_reducible exact Below.refl _ _ | with_reducible assumption | with_reducible refine balloc ?_ _ | with_reducible refine bdrew ?_ | with_reducible refine below_drewN ?_ _ | with_reducible refine bset ?_ ?_ _ | with_reducible exact Nat.le_refl _ | with_reducible refine bsize ?_ | (dsimp only; refine Nat.le_trans ?_ (Nat.le_add_right _ _)) | with_reducible refine Nat.le_trans ?_ (Nat.le_add_right _ _) | (with_reducible refine bstep ?_ (by assumption)))); done)) (HI.out _)) ?_; rintro e w20 ⟨vw20, rfl, hownw20, hbn⟩; (have f1 := hS3.out _ hbn); go_split_ands
  have hA20 := bstep hA9 hbn
  replace hownw := ownsRow_below hownw hbn
  replace hM := ownsRow_below hM hbn
  clear hbn hS3 hA9
  go_wp2_with fail; refine (eqr_ints _ _ _ _ _ _ hr2 hownw20 hownw).mono ?_; rintro e w21 ⟨rfl, hb21⟩
  have hA21 := bstep hA20 hb21
  replace hownw := ownsRow_below hownw hb21
  replace hM := ownsRow_below hM hb21
  clear hb21 hA20
  go_wp2_with fail; refine (heldr_ints _ _ _ 1 _ _ hr3 (by omega) (by omega) hM HYM.out).mono ?_; rintro e w22 ⟨rfl, hb22⟩
  have hA22 := bstep hA21 hb22
  replace hM := ownsRow_below hM hb22
  clear hb22 hA21
  go_wp2
  go_ret
  exact ⟨rfl, bstep hbw hA22⟩
theorem loadsForMile_walk (l : Int) (bl : -9223372036854775808 ≤ l ∧ l ≤ 9223372036854775807) (c : Int) (bc : -9223372036854775808 ≤ c ∧ c ≤ 9223372036854775807) (w : World) :
    Calls Try.prog 5 #[.int .i64 l, .int .i64 c] w fun e w' => e = .returned (.bool true) ∧ Below w.heap.size w w' :=
  loadsForMile_law l bl c bc w (fun W => loads_spec l c W) (fun W => loads_impl l c W)
end Go.Proofs.Ytbhdnocdpincpaa
