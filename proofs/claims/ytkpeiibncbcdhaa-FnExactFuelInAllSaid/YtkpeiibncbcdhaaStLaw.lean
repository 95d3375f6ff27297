/- IsState on both sides, and the size of a state. -/
import Derived.Test.YtkpeiibncbcdhaaIsStateS
namespace Go.Proofs.Ytkpeiibncbcdhaa
open Go.ChangeShapes Go.WideShapes Go.ChangeAt Go.RowKit Go.Joins
set_option maxRecDepth 100000
set_option linter.unusedVariables false
set_option linter.unusedSimpArgs false

theorem stateB_1 {a b c d e f : Int} {l : List DepotV} (h : amB a b = false) : stateB a b c d e f l = false := by simp [stateB, h]
theorem isState_impl (a b c d e f : Int) (ad : Addr) (cap : Nat) (l : List DepotV) (w : World) (hB : StBd a b c d e f) (hL : LiesG 4 fDepot w ad cap l) :
    Calls Try.prog 22 #[.agg #[.int .i64 a, .int .i64 b, .int .i64 c, .int .i64 d, .int .i64 e, .int .i64 f, .slice (some ad) l.length cap]] w fun e' w' => e' = .returned (.bool (stateB a b c d e f l)) ∧ Below w.heap.size w w' := by
  cases h1 : amB a b
  · rw [show stateB a b c d e f l = false by simp [stateB, h1]]; exact isState_impl_no1 a b c d e f ad cap l w hB hL h1
  cases h2 : amB c d
  · rw [show stateB a b c d e f l = false by simp [stateB, h2]]; exact isState_impl_no2 a b c d e f ad cap l w hB hL h1 h2
  cases h3 : decide (c ≤ d)
  · rw [show stateB a b c d e f l = false by simp [stateB, h3]]; exact isState_impl_no3 a b c d e f ad cap l w hB hL h1 h2 h3
  cases h4 : amB e f
  · rw [show stateB a b c d e f l = false by simp [stateB, h4]]; exact isState_impl_no4 a b c d e f ad cap l w hB hL h1 h2 h3 h4
  by_cases h5 : l.length ≤ 20
  · rw [show stateB a b c d e f l = depsB l 0 1 by simp [stateB, h1, h2, h3, h4, h5]]; exact isState_impl_yes a b c d e f ad cap l w hB hL h1 h2 h3 h4 h5
  · rw [show stateB a b c d e f l = false by simp [stateB, h5]]; exact isState_impl_no5 a b c d e f ad cap l w hB hL h1 h2 h3 h4 (by omega)
theorem tpGood_spec (a b c d e f : Int) (ad : Addr) (cap : Nat) (l : List DepotV) (w : World) (hL : LiesG 4 fDepot w ad cap l) :
    Calls Try.prog 59 #[.agg #[.int .i64 a, .int .i64 b, .int .i64 c, .int .i64 d, .int .i64 e, .int .i64 f, .slice (some ad) l.length cap]] w fun e' w' => e' = .returned (.bool (stateB a b c d e f l)) ∧ Below w.heap.size w w' := by
  cases h1 : amB a b
  · rw [show stateB a b c d e f l = false by simp [stateB, h1]]; exact tpGood_no1 a b c d e f ad cap l w hL h1
  cases h2 : (amB c d && decide (c ≤ d))
  · rw [show stateB a b c d e f l = false by unfold stateB; rw [← Bool.and_assoc (amB c d), h2]; simp]; exact tpGood_no2 a b c d e f ad cap l w hL h1 h2
  cases h4 : amB e f
  · rw [show stateB a b c d e f l = false by simp [stateB, h4]]; exact tpGood_no3 a b c d e f ad cap l w hL h1 h2 h4
  by_cases h5 : l.length ≤ 20
  · rw [show stateB a b c d e f l = depsB l 0 1 by unfold stateB; rw [← Bool.and_assoc (amB c d), h1, h2, h4]; simp [h5]]; exact tpGood_yes a b c d e f ad cap l w hL h1 h2 h4 h5
  · rw [show stateB a b c d e f l = false by simp [stateB, h5]]; exact tpGood_no4 a b c d e f ad cap l w hL h1 h2 h4 (by omega)
theorem isState_spec (a b c d e f : Int) (ad : Addr) (cap : Nat) (l : List DepotV) (w : World) (hL : LiesG 4 fDepot w ad cap l) :
    Calls Try.prog 20 #[.agg #[.int .i64 a, .int .i64 b, .int .i64 c, .int .i64 d, .int .i64 e, .int .i64 f, .slice (some ad) l.length cap]] w fun e' w' => e' = .returned (.bool (stateB a b c d e f l)) ∧ Below w.heap.size w w' := by
  have hcon := fun W (hb : Below w.heap.size w W) => tpGood_spec a b c d e f ad cap l W (liesG_below hL hb)
  have HC := Lib.hid hcon
  clear hcon
  go_enter Try.func20, Try.ntmps20
  (go_wp2_with fail; refine (HC.out _ (by (repeat (first | with_reducible exact Below.refl _ _ | with_reducible assumption | with_reducible refine balloc ?_ _ | with_reducible refine bdrew ?_ | with_reducible refine bset ?_ ?_ _ | with_reducible exact Nat.le_refl _ | with_reducible refine bsize ?_ | (dsimp only; refine Nat.le_trans ?_ (Nat.le_add_right _ _)) | with_reducible refine Nat.le_trans ?_ (Nat.le_add_right _ _) | (with_reducible refine bstep ?_ (by assumption)))))).mono ?_; rintro e w1 ⟨rfl, hb1⟩; (have ha1 : Below w.heap.size w w1 := by (repeat (first | with_reducible exact Below.refl _ _ | with_reducible assumption | with_reducible refine balloc ?_ _ | with_reducible refine bdrew ?_ | with_reducible refine bset ?_ ?_ _ | with_reducible exact Nat.le_refl _ | with_reducible refine bsize ?_ | (dsimp only; refine Nat.le_trans ?_ (Nat.le_add_right _ _)) | with_reducible refine Nat.le_trans ?_ (Nat.le_add_right _ _) | (with_reducible refine bstep ?_ (by assumption))))); obtain ⟨kc1, kf1, kz1, ky1, kx1, kv1, ku1⟩ := bcell hb1)
  go_wp2
  go_ret
  refine ⟨rfl, ?_⟩
  (repeat (first | with_reducible exact Below.refl _ _ | with_reducible assumption | with_reducible refine balloc ?_ _ | with_reducible refine bdrew ?_ | with_reducible refine bset ?_ ?_ _ | with_reducible exact Nat.le_refl _ | with_reducible refine bsize ?_ | (dsimp only; refine Nat.le_trans ?_ (Nat.le_add_right _ _)) | with_reducible refine Nat.le_trans ?_ (Nat.le_add_right _ _) | (with_reducible refine bstep ?_ (by assumption))))
theorem sz_state (a b c d e f : Int) (sa : Option Addr) (n cap : Nat) (w : World) (hn : n ≤ 9223372036854775807) :
    Calls Try.prog 19 #[.agg #[.int .i64 a, .int .i64 b, .int .i64 c, .int .i64 d, .int .i64 e, .int .i64 f, .slice sa n cap], .int .i64 1048576] w fun e w' => e = .returned (.int .i64 (if n ≤ 1048576 then 1048576 - (n : Int) else -1)) ∧ Below w.heap.size w w' := by
  have hsz := fun W => sz_depots sa n cap W hn
  have HS := Lib.hid hsz
  clear hsz
  by_cases h : n ≤ 1048576
  · rw [if_pos h]
    go_enter Try.func19, Try.ntmps19
    go_wp2_with fail; refine (HS.out _).mono ?_; rintro e w1 ⟨rfl, hb1⟩; rw [if_pos h]
    have ha1 : Below w.heap.size w w1 := by (repeat (first | with_reducible exact Below.refl _ _ | with_reducible assumption | with_reducible refine balloc ?_ _ | with_reducible refine bdrew ?_ | with_reducible refine bset ?_ ?_ _ | with_reducible exact Nat.le_refl _ | with_reducible refine bsize ?_ | (dsimp only; refine Nat.le_trans ?_ (Nat.le_add_right _ _)) | with_reducible refine Nat.le_trans ?_ (Nat.le_add_right _ _) | (with_reducible refine bstep ?_ (by assumption))))
    go_wp2
    go_ret
    refine ⟨rfl, ?_⟩
    (repeat (first | with_reducible exact Below.refl _ _ | with_reducible assumption | with_reducible refine balloc ?_ _ | with_reducible refine bdrew ?_ | with_reducible refine bset ?_ ?_ _ | with_reducible exact Nat.le_refl _ | with_reducible refine bsize ?_ | (dsimp only; refine Nat.le_trans ?_ (Nat.le_add_right _ _)) | with_reducible refine Nat.le_trans ?_ (Nat.le_add_right _ _) | (with_reducible refine bstep ?_ (by assumption))))
  · rw [if_neg h]
    go_enter Try.func19, Try.ntmps19
    go_wp2_with fail; refine (HS.out _).mono ?_; rintro e w1 ⟨rfl, hb1⟩; rw [if_neg h]
    have ha1 : Below w.heap.size w w1 := by (repeat (first | with_reducible exact Below.refl _ _ | with_reducible assumption | with_reducible refine balloc ?_ _ | with_reducible refine bdrew ?_ | with_reducible refine bset ?_ ?_ _ | with_reducible exact Nat.le_refl _ | with_reducible refine bsize ?_ | (dsimp only; refine Nat.le_trans ?_ (Nat.le_add_right _ _)) | with_reducible refine Nat.le_trans ?_ (Nat.le_add_right _ _) | (with_reducible refine bstep ?_ (by assumption))))
    go_wp2
    go_ret
    refine ⟨rfl, ?_⟩
    (repeat (first | with_reducible exact Below.refl _ _ | with_reducible assumption | with_reducible refine balloc ?_ _ | with_reducible refine bdrew ?_ | with_reducible refine bset ?_ ?_ _ | with_reducible exact Nat.le_refl _ | with_reducible refine bsize ?_ | (dsimp only; refine Nat.le_trans ?_ (Nat.le_add_right _ _)) | with_reducible refine Nat.le_trans ?_ (Nat.le_add_right _ _) | (with_reducible refine bstep ?_ (by assumption))))
end Go.Proofs.Ytkpeiibncbcdhaa
