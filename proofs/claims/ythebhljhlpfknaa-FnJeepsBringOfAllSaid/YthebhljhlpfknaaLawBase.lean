/- What the laws on two amounts share. -/
import Derived.Test.YthebhljhlpfknaaBase
import Derived.Test.YthebhljhlpfknaaOps
import Derived.Deep.RegionHeld3
import Derived.Deep.DeepCutAuto
namespace Go.Proofs.Ythebhljhlpfknaa
open Go.ChangeShapes Go.WideShapes Go.ChangeAt Go.RowKit Go.Joins
set_option linter.unusedVariables false
set_option linter.unusedSimpArgs false

theorem toAmt (n d : Int) (w : World) :
    Calls Try.prog 86 #[.agg #[.int .i64 n, .int .i64 d]] w fun e w' => e = .returned (.agg #[.int .i64 n, .int .i64 d]) ∧ Below w.heap.size w w' := by
  go_enter Try.func86, Try.ntmps86
  go_wp2
  refine bodyPost_ret (v := .agg #[.int .i64 n, .int .i64 d]) (by simp [results, Try.results86, go_sem]) rfl ⟨rfl, ?_⟩
  (repeat (first | with_reducible exact Below.refl _ _ | with_reducible assumption | with_reducible refine balloc ?_ _ | with_reducible refine bdrew ?_ | with_reducible refine below_drewN ?_ _ | with_reducible refine bset ?_ ?_ _ | with_reducible exact Nat.le_refl _ | with_reducible refine bsize ?_ | (dsimp only; refine Nat.le_trans ?_ (Nat.le_add_right _ _)) | with_reducible refine Nat.le_trans ?_ (Nat.le_add_right _ _) | (with_reducible refine bstep ?_ (by assumption))))
theorem eq_same (n d : Int) (w : World) :
    Calls Try.prog 84 #[.agg #[.int .i64 n, .int .i64 d], .agg #[.int .i64 n, .int .i64 d]] w fun e w' => e = .returned (.bool true) ∧ Below w.heap.size w w' := by
  go_enter Try.func84, Try.ntmps84
  go_wp2
  go_ret
  refine ⟨rfl, ?_⟩
  (repeat (first | with_reducible exact Below.refl _ _ | with_reducible assumption | with_reducible refine balloc ?_ _ | with_reducible refine bdrew ?_ | with_reducible refine below_drewN ?_ _ | with_reducible refine bset ?_ ?_ _ | with_reducible exact Nat.le_refl _ | with_reducible refine bsize ?_ | (dsimp only; refine Nat.le_trans ?_ (Nat.le_add_right _ _)) | with_reducible refine Nat.le_trans ?_ (Nat.le_add_right _ _) | (with_reducible refine bstep ?_ (by assumption))))

theorem toAmt_is (n d : Int) (w : World) :
    Calls Try.prog 86 #[.agg #[.int .i64 n, .int .i64 d]] w fun e w' => e = .returned (.agg #[.int .i64 n, .int .i64 d]) ∧
      ((w.alloc (.cells #[.int .i64 n, .int .i64 d] 62)).alloc (.cells #[.int .i64 n, .int .i64 d] 23)).alloc (.cells #[.int .i64 n, .int .i64 d] 23) = w' := by
  go_enter Try.func86, Try.ntmps86
  go_wp2
  exact bodyPost_ret (v := .agg #[.int .i64 n, .int .i64 d]) (by simp [results, Try.results86, go_sem]) rfl ⟨rfl, rfl⟩

/-- A law on two amounts whose two sides answer with an amount: what a region leaves in its two variables. -/
def Res2 (N D : Int) (B : Bool) (V : World) (s5 s6 : Value) (wx : World) : Prop :=
  ∃ g : Nat, s5 = .pointer (some ⟨g, 0, none⟩) ∧ s6 = .bool B ∧ wx.cell? ⟨g, 0, none⟩ = some (.int .i64 N) ∧ wx.cell? ⟨g, 1, none⟩ = some (.int .i64 D) ∧ g < wx.heap.size ∧ Below V.heap.size V wx
/-- The two boxed arguments. -/
def boxed (w : World) (n d p q : Int) : World := (w.alloc (.cells #[.int .i64 n, .int .i64 d] 62)).alloc (.cells #[.int .i64 p, .int .i64 q] 62)
structure Boxed (w V : World) (n d p q : Int) : Prop where
  c1 : V.cell? ⟨w.heap.size, 0, none⟩ = some (.int .i64 n)
  c2 : V.cell? ⟨w.heap.size, 1, none⟩ = some (.int .i64 d)
  c3 : V.cell? ⟨w.heap.size + 1, 0, none⟩ = some (.int .i64 p)
  c4 : V.cell? ⟨w.heap.size + 1, 1, none⟩ = some (.int .i64 q)
  hs : w.heap.size + 1 < V.heap.size
  below : Below w.heap.size w V
theorem boxed_is (w : World) (n d p q : Int) : Boxed w (boxed w n d p q) n d p q := by
  unfold boxed
  refine ⟨by simp, by simp, by simp, by simp, by simp, ?_⟩
  (repeat (first | with_reducible exact Below.refl _ _ | with_reducible assumption | with_reducible refine balloc ?_ _ | with_reducible refine bdrew ?_ | with_reducible refine below_drewN ?_ _ | with_reducible refine bset ?_ ?_ _ | with_reducible exact Nat.le_refl _ | with_reducible refine bsize ?_ | (dsimp only; refine Nat.le_trans ?_ (Nat.le_add_right _ _)) | with_reducible refine Nat.le_trans ?_ (Nat.le_add_right _ _) | (with_reducible refine bstep ?_ (by assumption))))
theorem boxed_later {w V V' : World} {n d p q : Int} (h : Boxed w V n d p q) (hb : Below V.heap.size V V') : Boxed w V' n d p q :=
  ⟨keepa hb (by have := h.hs; omega) h.c1, keepa hb (by have := h.hs; omega) h.c2, keepa hb h.hs h.c3, keepa hb h.hs h.c4, Nat.lt_of_lt_of_le h.hs hb.size, bstep h.below hb⟩

end Go.Proofs.Ythebhljhlpfknaa
