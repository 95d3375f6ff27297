/- The walk of the law FnExactFewestTakings: for every fuel, way and list of stations (nil, too; of whatever length; also what is none): the program answers as the model, and the list stays as it was. No condition. -/
import Derived.Test.YtoienhjbhpdehaaLawBase
import Derived.Test.YtoienhjbhpdehaaRowsL
import Derived.Test.YtoienhjbhpdehaaLStation
import Derived.Test.YtoienhjbhpdehaaRStation
import Derived.Test.YtoienhjbhpdehaaTakO
import Derived.Deep.RegionHeld3
import Derived.Deep.DeepCutAuto
namespace Go.Proofs.Ytoienhjbhpdehaa
open Go.ChangeShapes Go.WideShapes Go.ChangeAt Go.RowKit Go.Joins
set_option maxRecDepth 100000
set_option linter.unusedVariables false
set_option linter.unusedSimpArgs false

set_option maxHeartbeats 6400000 in
theorem fewestTakings_law (fuel : Int) (bfuel : -9223372036854775808 ≤ fuel ∧ fuel ≤ 9223372036854775807) (way : Int) (bway : -9223372036854775808 ≤ way ∧ way ≤ 9223372036854775807) (a : Option Addr) (cap : Nat) (l : List StaV) (hn : l.length ≤ 1048576) (hbd : ∀ p ∈ l, ∀ y ∈ fSta p, -9223372036854775808 ≤ y ∧ y ≤ 9223372036854775807) (w : World)
    (hcopy0 : ∀ W, Below w.heap.size w W → Calls Try.prog 6 #[.slice a l.length cap] W (EndCopyG 34 2 fSta l W))
    (hs : ∀ (W : World) (v : Value), RowG 2 fSta W v l → Calls Try.prog 5 #[.int .i64 fuel, .int .i64 way, v] W (fun e w' => e = .returned (.tuple #[.int .i64 (ftV fuel way l), .bool (ftB fuel way l)]) ∧ Below W.heap.size W w')) (hi : ∀ (W : World) (v : Value), RowG 2 fSta W v l → Calls Try.prog 7 #[.int .i64 fuel, .int .i64 way, v] W (fun e w' => e = .returned (.tuple #[.int .i64 (ftV fuel way l), .bool (ftB fuel way l)]) ∧ Below W.heap.size W w')) :
    Calls Try.prog 3 #[.int .i64 fuel, .int .i64 way, .slice a l.length cap] w fun e w' => e = .returned (.bool true) ∧ Below w.heap.size w w' := by
  have HS := Lib.hid hs
  have HI := Lib.hid hi
  clear hs hi
  have hpos : ¬ (1048576 - (l.length : Int) < 0) := by omega
  have hsz := sz_stas a l.length cap
  have hn2 : l.length ≤ 9223372036854775807 := by omega
  go_enter Try.func3, Try.ntmps3
  go_wp2_with fail; refine (hsz _ hn2).mono ?_; rintro e w1 ⟨rfl, hb1⟩
  rw [if_pos hn]
  clear hsz
  have hbw : Below w.heap.size w w1 := by (repeat (first | with_reducible exact Below.refl _ _ | with_reducible assumption | with_reducible refine balloc ?_ _ | with_reducible refine bdrew ?_ | with_reducible refine below_drewN ?_ _ | with_reducible refine bset ?_ ?_ _ | with_reducible exact Nat.le_refl _ | with_reducible refine bsize ?_ | (dsimp only; refine Nat.le_trans ?_ (Nat.le_add_right _ _)) | with_reducible refine Nat.le_trans ?_ (Nat.le_add_right _ _) | (with_reducible refine bstep ?_ (by assumption))))
  clear hb1
  go_upto_region 5 with fail
  have hcopy : Hid (∀ W, Below w1.heap.size w1 W → Calls Try.prog 6 #[.slice a l.length cap] W (EndCopyG 34 2 fSta l W)) := Lib.hid (fun W h => hcopy0 W (bstep hbw h))
  have hcopyW := Lib.hid hcopy0
  clear hcopy0
  go_cut [8, 9] (fun s8 s9 wx => s8 = .int .i64 (ftV fuel way l) ∧ s9 = .bool (ftB fuel way l) ∧ Below w1.heap.size w1 wx)
  case first =>
    have hS1 := Lib.hid (fun (W : World) (h : Below w1.heap.size w1 W) => (h : Below w1.heap.size w1 W))
    go_wp2_with fail; refine (hcopy.out _ (by first | with_reducible assumption | ((repeat (first | with_reducible exact Below.refl _ _ | with_reducible assumption | with_reducible refine balloc ?_ _ | with_reducible refine bdrew ?_ | with_reducible refine below_drewN ?_ _ | with_reducible refine bset ?_ ?_ _ | with_reducible exact Nat.le_refl _ | with_reducible refine bsize ?_ | (dsimp only; refine Nat.le_trans ?_ (Nat.le_add_right _ _)) | with_reducible refine Nat.le_trans ?_ (Nat.le_add_right _ _) | (with_reducible refine bstep ?_ (by assumption)))); done))).mono ?_; rintro e w3 ⟨gc, rfl, hownc, hb3⟩; (have f0 := bstep (by first | with_reducible assumption | ((repeat (first | with_reducible exact Below.refl _ _ | with_reducible assumption | with_reducible refine balloc ?_ _ | with_reducible refine bdrew ?_ | with_reducible refine below_drewN ?_ _ | with_reducible refine bset ?_ ?_ _ | with_reducible exact Nat.le_refl _ | with_reducible refine bsize ?_ | (dsimp only; refine Nat.le_trans ?_ (Nat.le_add_right _ _)) | with_reducible refine Nat.le_trans ?_ (Nat.le_add_right _ _) | (with_reducible refine bstep ?_ (by assumption)))); done) : Below w1.heap.size w1 _) hb3); (have f1 := hS1.out _ f0); go_split_ands
    go_wp2_with fail; refine Calls.mono (HS.out _ _ ?hrow) ?_; (case hrow => first | exact rowG_own fSta_len hownc hbd | exact rowG_own fSta_len (own_alloc hownc _) hbd | exact rowG_own fSta_len (own_drew hownc) hbd | exact rowG_own fSta_len (own_alloc (own_alloc hownc _) _) hbd); rintro e w3 ⟨rfl, hb3⟩; (have f0 := bstep (by first | with_reducible assumption | ((repeat (first | with_reducible exact Below.refl _ _ | with_reducible assumption | with_reducible refine balloc ?_ _ | with_reducible refine bdrew ?_ | with_reducible refine below_drewN ?_ _ | with_reducible refine bset ?_ ?_ _ | with_reducible exact Nat.le_refl _ | with_reducible refine bsize ?_ | (dsimp only; refine Nat.le_trans ?_ (Nat.le_add_right _ _)) | with_reducible refine Nat.le_trans ?_ (Nat.le_add_right _ _) | (with_reducible refine bstep ?_ (by assumption)))); done) : Below w1.heap.size w1 _) hb3); (have f1 := hS1.out _ f0); go_split_ands
    all_goals (go_wp2_with fail; go_meet)
    all_goals refine ⟨rfl, rfl, ?_⟩
    all_goals first | ((repeat (first | with_reducible exact Below.refl _ _ | with_reducible assumption | with_reducible refine balloc ?_ _ | with_reducible refine bdrew ?_ | with_reducible refine below_drewN ?_ _ | with_reducible refine bset ?_ ?_ _ | with_reducible exact Nat.le_refl _ | with_reducible refine bsize ?_ | (dsimp only; refine Nat.le_trans ?_ (Nat.le_add_right _ _)) | with_reducible refine Nat.le_trans ?_ (Nat.le_add_right _ _) | (with_reducible refine bstep ?_ (by assumption)))); done) | (simp [go_sem]; done) | (simp [go_sem]; done) | (simp; omega)
  case rest =>
    obtain ⟨rfl, rfl, hgb⟩ := hcut
    have hbw2 := bstep hbw hgb
    replace hcopy : Hid (∀ W, Below wc.heap.size wc W → Calls Try.prog 6 #[.slice a l.length cap] W (EndCopyG 34 2 fSta l W)) := Lib.hid (fun W h => hcopy.out W (bstep hgb h))
    clear hgb hbw
    go_wp2_with fail; refine (hcopy.out _ (by (repeat (first | with_reducible exact Below.refl _ _ | with_reducible assumption | with_reducible refine balloc ?_ _ | with_reducible refine bdrew ?_ | with_reducible refine below_drewN ?_ _ | with_reducible refine bset ?_ ?_ _ | with_reducible exact Nat.le_refl _ | with_reducible refine bsize ?_ | (dsimp only; refine Nat.le_trans ?_ (Nat.le_add_right _ _)) | with_reducible refine Nat.le_trans ?_ (Nat.le_add_right _ _) | (with_reducible refine bstep ?_ (by assumption)))))).mono ?_; rintro e w4 ⟨gx, rfl, hownx, hb4⟩
    have f4 : Below wc.heap.size wc w4 := bstep (by (repeat (first | with_reducible exact Below.refl _ _ | with_reducible assumption | with_reducible refine balloc ?_ _ | with_reducible refine bdrew ?_ | with_reducible refine below_drewN ?_ _ | with_reducible refine bset ?_ ?_ _ | with_reducible exact Nat.le_refl _ | with_reducible refine bsize ?_ | (dsimp only; refine Nat.le_trans ?_ (Nat.le_add_right _ _)) | with_reducible refine Nat.le_trans ?_ (Nat.le_add_right _ _) | (with_reducible refine bstep ?_ (by assumption))))) hb4
    replace hbw2 := bstep hbw2 f4
    replace hcopy : Hid (∀ W, Below w4.heap.size w4 W → Calls Try.prog 6 #[.slice a l.length cap] W (EndCopyG 34 2 fSta l W)) := Lib.hid (fun W h => hcopy.out W (bstep f4 h))
    clear f4 hb4
    go_upto_region 7 with fail
    go_cut [11, 12] (fun s11 s12 wx => s11 = .int .i64 (ftV fuel way l) ∧ s12 = .bool (ftB fuel way l) ∧ Below w4.heap.size w4 wx)
    case first =>
      have hS2 := Lib.hid (fun (W : World) (h : Below w4.heap.size w4 W) => (h : Below w4.heap.size w4 W))
      go_wp2_with fail; refine Calls.mono (HI.out _ _ ?hrow) ?_; (case hrow => exact rowG_own fSta_len (ownsRow_below hownx (by first | with_reducible assumption | ((repeat (first | with_reducible exact Below.refl _ _ | with_reducible assumption | with_reducible refine balloc ?_ _ | with_reducible refine bdrew ?_ | with_reducible refine below_drewN ?_ _ | with_reducible refine bset ?_ ?_ _ | with_reducible exact Nat.le_refl _ | with_reducible refine bsize ?_ | (dsimp only; refine Nat.le_trans ?_ (Nat.le_add_right _ _)) | with_reducible refine Nat.le_trans ?_ (Nat.le_add_right _ _) | (with_reducible refine bstep ?_ (by assumption)))); done))) hbd); rintro e w3 ⟨rfl, hb3⟩; (have f0 := bstep (by first | with_reducible assumption | ((repeat (first | with_reducible exact Below.refl _ _ | with_reducible assumption | with_reducible refine balloc ?_ _ | with_reducible refine bdrew ?_ | with_reducible refine below_drewN ?_ _ | with_reducible refine bset ?_ ?_ _ | with_reducible exact Nat.le_refl _ | with_reducible refine bsize ?_ | (dsimp only; refine Nat.le_trans ?_ (Nat.le_add_right _ _)) | with_reducible refine Nat.le_trans ?_ (Nat.le_add_right _ _) | (with_reducible refine bstep ?_ (by assumption)))); done) : Below w4.heap.size w4 _) hb3); (have f1 := hS2.out _ f0); go_split_ands
      all_goals (go_wp2_with fail; go_meet)
      all_goals refine ⟨rfl, rfl, ?_⟩
      all_goals first | ((repeat (first | with_reducible exact Below.refl _ _ | with_reducible assumption | with_reducible refine balloc ?_ _ | with_reducible refine bdrew ?_ | with_reducible refine below_drewN ?_ _ | with_reducible refine bset ?_ ?_ _ | with_reducible exact Nat.le_refl _ | with_reducible refine bsize ?_ | (dsimp only; refine Nat.le_trans ?_ (Nat.le_add_right _ _)) | with_reducible refine Nat.le_trans ?_ (Nat.le_add_right _ _) | (with_reducible refine bstep ?_ (by assumption)))); done) | (simp [go_sem]; done) | (simp [go_sem]; done) | (simp; omega)
    case rest =>
      obtain ⟨rfl, rfl, hhb⟩ := hcut
      have hbw := bstep hbw2 hhb
      replace hownx := ownsRow_below hownx hhb
      replace hcopy : Hid (∀ W, Below w.heap.size w W → Calls Try.prog 6 #[.slice a l.length cap] W (EndCopyG 34 2 fSta l W)) := Lib.hid (fun W h => hcopyW.out W h)
      clear hhb
      go_wp2_with fail; refine (hcopy.out _ (by (repeat (first | with_reducible exact Below.refl _ _ | with_reducible assumption | with_reducible refine balloc ?_ _ | with_reducible refine bdrew ?_ | with_reducible refine below_drewN ?_ _ | with_reducible refine bset ?_ ?_ _ | with_reducible exact Nat.le_refl _ | with_reducible refine bsize ?_ | (dsimp only; refine Nat.le_trans ?_ (Nat.le_add_right _ _)) | with_reducible refine Nat.le_trans ?_ (Nat.le_add_right _ _) | (with_reducible refine bstep ?_ (by assumption)))))).mono ?_; rintro e w8 ⟨gy, rfl, howny, hb8⟩
      have hA8 : Below w.heap.size w w8 := by (repeat (first | with_reducible exact Below.refl _ _ | with_reducible assumption | with_reducible refine balloc ?_ _ | with_reducible refine bdrew ?_ | with_reducible refine below_drewN ?_ _ | with_reducible refine bset ?_ ?_ _ | with_reducible exact Nat.le_refl _ | with_reducible refine bsize ?_ | (dsimp only; refine Nat.le_trans ?_ (Nat.le_add_right _ _)) | with_reducible refine Nat.le_trans ?_ (Nat.le_add_right _ _) | (with_reducible refine bstep ?_ (by assumption))))
      replace hownx := ownsRow_below hownx (bstep (by (repeat (first | with_reducible exact Below.refl _ _ | with_reducible assumption | with_reducible refine balloc ?_ _ | with_reducible refine bdrew ?_ | with_reducible refine below_drewN ?_ _ | with_reducible refine bset ?_ ?_ _ | with_reducible exact Nat.le_refl _ | with_reducible refine bsize ?_ | (dsimp only; refine Nat.le_trans ?_ (Nat.le_add_right _ _)) | with_reducible refine Nat.le_trans ?_ (Nat.le_add_right _ _) | (with_reducible refine bstep ?_ (by assumption))))) hb8)
      clear hb8
      go_wp2_with fail; refine (eqr_stas _ _ _ _ _ _ hn hownx howny).mono ?_; rintro e w9 ⟨rfl, hb9⟩
      go_wp2
      go_ret
      refine ⟨rfl, ?_⟩
      (repeat (first | with_reducible exact Below.refl _ _ | with_reducible assumption | with_reducible refine balloc ?_ _ | with_reducible refine bdrew ?_ | with_reducible refine below_drewN ?_ _ | with_reducible refine bset ?_ ?_ _ | with_reducible exact Nat.le_refl _ | with_reducible refine bsize ?_ | (dsimp only; refine Nat.le_trans ?_ (Nat.le_add_right _ _)) | with_reducible refine Nat.le_trans ?_ (Nat.le_add_right _ _) | (with_reducible refine bstep ?_ (by assumption))))
theorem fewestTakings_long (fuel : Int) (bfuel : -9223372036854775808 ≤ fuel ∧ fuel ≤ 9223372036854775807) (way : Int) (bway : -9223372036854775808 ≤ way ∧ way ≤ 9223372036854775807) (a : Option Addr) (n0 cap : Nat) (w : World) (hn : 1048576 < n0) (hn2 : n0 ≤ 9223372036854775807) :
    Calls Try.prog 3 #[.int .i64 fuel, .int .i64 way, .slice a n0 cap] w fun e w' => e = .returned (.bool true) ∧ Below w.heap.size w w' := by
  have hsz := sz_stas a n0 cap
  go_enter Try.func3, Try.ntmps3
  go_wp2_with fail; refine (hsz _ hn2).mono ?_; rintro e w1 ⟨rfl, hb1⟩
  rw [if_neg (by omega)]
  go_wp2
  go_ret
  refine ⟨rfl, ?_⟩
  (repeat (first | with_reducible exact Below.refl _ _ | with_reducible assumption | with_reducible refine balloc ?_ _ | with_reducible refine bdrew ?_ | with_reducible refine below_drewN ?_ _ | with_reducible refine bset ?_ ?_ _ | with_reducible exact Nat.le_refl _ | with_reducible refine bsize ?_ | (dsimp only; refine Nat.le_trans ?_ (Nat.le_add_right _ _)) | with_reducible refine Nat.le_trans ?_ (Nat.le_add_right _ _) | (with_reducible refine bstep ?_ (by assumption))))
theorem fewestTakings_walk (fuel : Int) (bfuel : -9223372036854775808 ≤ fuel ∧ fuel ≤ 9223372036854775807) (way : Int) (bway : -9223372036854775808 ≤ way ∧ way ≤ 9223372036854775807) (v : Value) (w0 : World) (h : AnyG 2 fSta w0 v) (w : World) (e : w0 = w := by rfl) :
    Calls Try.prog 3 #[.int .i64 fuel, .int .i64 way, v] w fun e w' => e = .returned (.bool true) ∧ Below w.heap.size w w' := by
  subst e
  rcases h with rfl | ⟨a, cap, l, rfl, hL⟩
  · exact fewestTakings_law fuel bfuel way bway none 0 [] (by simp) (by simp) w0 (fun W _ => to_stas_nil W) (fun W v h => takings_spec fuel way v [] W h) (fun W v h => takings_impl fuel way v [] W h)
  · by_cases hn : l.length ≤ 1048576
    · exact fewestTakings_law fuel bfuel way bway (some a) cap l (by omega) hL.hbd w0 (fun W hb => to_stas_some a cap l W (liesG_below hL hb) (by omega)) (fun W v h => takings_spec fuel way v l W h) (fun W v h => takings_impl fuel way v l W h)
    · exact fewestTakings_long fuel bfuel way bway _ _ _ _ (by omega) (by have := hL.hlc; have := hL.hcap; omega)
end Go.Proofs.Ytoienhjbhpdehaa
