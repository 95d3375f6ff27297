/- The walk of the law FnExactDoesFit: for every number of miles, every clue and every list of wells: the program answers as the model, and the list stays as it was. No condition. -/
import Derived.Test.YtiafmojmanhdoaaPkD9c
namespace Go.Proofs.Ytiafmojmanhdoaa
open Go.ChangeShapes Go.WideShapes Go.ChangeAt Go.RowKit Go.Joins
set_option maxRecDepth 100000
set_option linter.unusedVariables false
set_option linter.unusedSimpArgs false

set_option maxHeartbeats 6400000 in
theorem df_law (m k a b : Int) (bm : -9223372036854775808 ≤ m ∧ m ≤ 9223372036854775807) (bk : -9223372036854775808 ≤ k ∧ k ≤ 9223372036854775807) (ba : -9223372036854775808 ≤ a ∧ a ≤ 9223372036854775807) (bb : -9223372036854775808 ≤ b ∧ b ≤ 9223372036854775807) (a1 : Option Addr) (c1 : Nat) (l1 : List Int) (w : World) (hn1 : l1.length ≤ 1048576) (hbd1 : ∀ p ∈ l1, ∀ y ∈ fInt p, -9223372036854775808 ≤ y ∧ y ≤ 9223372036854775807)
    (hc1 : ∀ W, Below w.heap.size w W → Calls Try.prog 16 #[.slice a1 l1.length c1] W (EndCopyG 3 1 fInt l1 W)) :
    Calls Try.prog 3 #[.int .i64 m, .agg #[.int .i64 k, .int .i64 a, .int .i64 b], .slice a1 l1.length c1] w fun e w' => e = .returned (.bool true) ∧ Below w.heap.size w w' := by
  have HC1 := Lib.hid hc1
  have HB1 := Lib.hid hbd1
  clear hc1 hbd1
  have HS := Lib.hid (fun v W h => doesFit_spec m k a b v l1 W h)
  have HI := Lib.hid (fun v W h => doesFit_impl m k a b bm bk ba bb v l1 W h)
  have HQ := Lib.hid (fun W => toClue k a b W)
  generalize dfA m k a b l1 = DA at *
  generalize dfB m k a b l1 = DB at *
  have i1 : ¬ (1048576 < (l1.length : Int)) := by omega
  go_enter Try.func3, Try.ntmps3
  go_wp2_with fail
  refine (HQ.out _).mono ?_
  rintro e w1 ⟨rfl, hb1⟩
  have hw1 : Below w.heap.size w w1 := bstep (by (repeat (first | with_reducible exact Below.refl _ _ | with_reducible assumption | with_reducible refine balloc ?_ _ | with_reducible refine bdrew ?_ | with_reducible refine below_drewN ?_ _ | with_reducible refine bset ?_ ?_ _ | with_reducible exact Nat.le_refl _ | with_reducible refine bsize ?_ | (dsimp only; refine Nat.le_trans ?_ (Nat.le_add_right _ _)) | with_reducible refine Nat.le_trans ?_ (Nat.le_add_right _ _) | (with_reducible refine bstep ?_ (by assumption))))) hb1
  have hbx : Blk w.heap.size #[.int .i64 k, .int .i64 a, .int .i64 b] 23 w1 := (Blk.new w _ _).later hb1
  clear hb1
  go_wp2_with fail
  refine (HC1.out _ hw1).mono ?_
  rintro e w2 ⟨gw2, rfl, ow2, hb2⟩
  have hw2 : Below w.heap.size w w2 := bstep hw1 hb2
  replace hbx := hbx.later hb2
  clear hb2
  go_wp2_with fail
  refine (HS.out _ _ (rowG_own fInt_len ow2 HB1.out)).mono ?_
  rintro e w3 ⟨rfl, hb3⟩
  have hw3 : Below w.heap.size w w3 := bstep hw2 hb3
  replace hbx := hbx.later hb3
  clear ow2 hb3
  go_wp2_with fail
  refine (HC1.out _ hw3).mono ?_
  rintro e w4 ⟨gw4, rfl, ow4, hb4⟩
  have hw4 : Below w.heap.size w w4 := bstep hw3 hb4
  replace hbx := hbx.later hb4
  clear hb4
  have q0 := hbx.cell 0
  have q1 := hbx.cell 1
  have q2 := hbx.cell 2
  simp at q0 q1 q2
  go_wp2_with fail
  refine (HQ.out _).mono ?_
  rintro e w5 ⟨rfl, hb5⟩
  have f5 : Below w4.heap.size w4 w5 := bstep (by (repeat (first | with_reducible exact Below.refl _ _ | with_reducible assumption | with_reducible refine balloc ?_ _ | with_reducible refine bdrew ?_ | with_reducible refine below_drewN ?_ _ | with_reducible refine bset ?_ ?_ _ | with_reducible exact Nat.le_refl _ | with_reducible refine bsize ?_ | (dsimp only; refine Nat.le_trans ?_ (Nat.le_add_right _ _)) | with_reducible refine Nat.le_trans ?_ (Nat.le_add_right _ _) | (with_reducible refine bstep ?_ (by assumption))))) hb5
  have hw5 : Below w.heap.size w w5 := bstep hw4 f5
  replace ow4 := ownsRow_below ow4 f5
  clear hb5 f5 q0 q1 q2
  go_wp2_with fail
  refine (HI.out _ _ (rowG_own fInt_len ow4 HB1.out)).mono ?_
  rintro e w6 ⟨rfl, hb6⟩
  have f6 : Below w5.heap.size w5 w6 := bstep (by (repeat (first | with_reducible exact Below.refl _ _ | with_reducible assumption | with_reducible refine balloc ?_ _ | with_reducible refine bdrew ?_ | with_reducible refine below_drewN ?_ _ | with_reducible refine bset ?_ ?_ _ | with_reducible exact Nat.le_refl _ | with_reducible refine bsize ?_ | (dsimp only; refine Nat.le_trans ?_ (Nat.le_add_right _ _)) | with_reducible refine Nat.le_trans ?_ (Nat.le_add_right _ _) | (with_reducible refine bstep ?_ (by assumption))))) hb6
  have hw6 : Below w.heap.size w w6 := bstep hw5 f6
  replace ow4 := ownsRow_below ow4 f6
  clear hb6 f6
  go_wp2_with fail
  refine (HC1.out _ hw6).mono ?_
  rintro e w8 ⟨gw8, rfl, ow8, hb8⟩
  have hw8 : Below w.heap.size w w8 := bstep hw6 hb8
  replace ow4 := ownsRow_below ow4 hb8
  clear hb8
  go_wp2_with fail
  refine (eqr_ints _ _ _ _ _ _ hn1 ow4 ow8).mono ?_
  rintro e w9 ⟨rfl, hb9⟩
  have hw9 : Below w.heap.size w w9 := bstep hw8 hb9
  go_wp2
  go_ret
  exact ⟨rfl, hw9⟩
theorem df_long (m k a b : Int) (a1 : Option Addr) (n1 c1 : Nat) (w : World) (hn : 1048576 < n1) (hn2 : n1 ≤ 9223372036854775807) :
    Calls Try.prog 3 #[.int .i64 m, .agg #[.int .i64 k, .int .i64 a, .int .i64 b], .slice a1 n1 c1] w fun e w' => e = .returned (.bool true) ∧ Below w.heap.size w w' := by
  go_enter Try.func3, Try.ntmps3
  go_wp2
  go_ret
  refine ⟨rfl, ?_⟩
  (repeat (first | with_reducible exact Below.refl _ _ | with_reducible assumption | with_reducible refine balloc ?_ _ | with_reducible refine bdrew ?_ | with_reducible refine below_drewN ?_ _ | with_reducible refine bset ?_ ?_ _ | with_reducible exact Nat.le_refl _ | with_reducible refine bsize ?_ | (dsimp only; refine Nat.le_trans ?_ (Nat.le_add_right _ _)) | with_reducible refine Nat.le_trans ?_ (Nat.le_add_right _ _) | (with_reducible refine bstep ?_ (by assumption))))
theorem any_int9 {w : World} {v : Value} (h : AnyG 1 fInt w v) : ∃ (a : Option Addr) (c : Nat) (l : List Int), v = .slice a l.length c ∧ l.length ≤ 9223372036854775807 ∧ (∀ p ∈ l, ∀ y ∈ fInt p, -9223372036854775808 ≤ y ∧ y ≤ 9223372036854775807) ∧
    (l.length ≤ 1048576 → ∀ W, Below w.heap.size w W → Calls Try.prog 16 #[.slice a l.length c] W (EndCopyG 3 1 fInt l W)) := by
  rcases h with rfl | ⟨a, cap, l, rfl, hL⟩
  · exact ⟨none, 0, [], rfl, by simp, by simp, fun _ W _ => to_ints_nil W⟩
  · exact ⟨some a, cap, l, rfl, by have := hL.hlc; have := hL.hcap; omega, hL.hbd, fun hn W hb => to_ints_some a cap l W (liesG_below hL hb) hn⟩
theorem doesFit_walk (m : Int) (bm : -9223372036854775808 ≤ m ∧ m ≤ 9223372036854775807) (k a b : Int) (bk : -9223372036854775808 ≤ k ∧ k ≤ 9223372036854775807) (ba : -9223372036854775808 ≤ a ∧ a ≤ 9223372036854775807) (bb : -9223372036854775808 ≤ b ∧ b ≤ 9223372036854775807) (v1 : Value) (w1 : World) (h1 : AnyG 1 fInt w1 v1) (w : World) (e1 : w1 = w := by rfl) :
    Calls Try.prog 3 #[.int .i64 m, .agg #[.int .i64 k, .int .i64 a, .int .i64 b], v1] w fun e w' => e = .returned (.bool true) ∧ Below w.heap.size w w' := by
  subst e1
  obtain ⟨a1, c1, l1, rfl, m1, b1, k1⟩ := any_int9 h1
  by_cases n1 : l1.length ≤ 1048576
  · exact df_law m k a b bm bk ba bb a1 c1 l1 _ n1 b1 (k1 n1)
  · exact df_long _ _ _ _ _ _ _ _ (by omega) m1
end Go.Proofs.Ytiafmojmanhdoaa
