/- Sums of amounts told by Bool functions of their numbers; the laws' xIs and xLess; an element of a row. -/
import Derived.Test.YtgpbkjakmbmccaaReck1
import Derived.Test.YtgpbkjakmbmccaaReck2
import Derived.Test.YtgpbkjakmbmccaaReck3
import Derived.Test.YtgpbkjakmbmccaaRow
namespace Go.Proofs.Ytgpbkjakmbmccaa
open Go.ChangeShapes Go.WideShapes Go.ChangeAt Go.RowKit Go.Joins
set_option maxRecDepth 100000
set_option linter.unusedVariables false
set_option linter.unusedSimpArgs false

def addOk (n d p q : Int) : Bool := okk n d p q && lowB (n * q + p * d) (d * q)
def addR (n d p q : Int) : Int × Int := (lowN (n * q + p * d) (d * q), lowD (n * q + p * d) (d * q))
def subOk (n d p q : Int) : Bool := okk n d p q && lowB (n * q - p * d) (d * q)
def subR (n d p q : Int) : Int × Int := (lowN (n * q - p * d) (d * q), lowD (n * q - p * d) (d * q))
def mulOk (n d p q : Int) : Bool := okk n d p q && lowB (n * p) (d * q)
def mulR (n d p q : Int) : Int × Int := (lowN (n * p) (d * q), lowD (n * p) (d * q))
def sm (n : Int) : Bool := decide (0 ≤ n ∧ n ≤ 1000000000)
def isOk (n d p q : Int) : Bool := sm n && sm d && sm p && sm q && decide (0 < d) && n * q == p * d
def lessV (n d p q : Int) : Bool := decide (n * q < p * d)
theorem okk_bd {n d p q : Int} (h : okk n d p q = true) : (0 ≤ n ∧ n ≤ 1000000000) ∧ (1 ≤ d ∧ d ≤ 1000000000) ∧ (0 ≤ p ∧ p ≤ 1000000000) ∧ (1 ≤ q ∧ q ≤ 1000000000) := by
  simp only [okk, Bool.and_eq_true] at h
  obtain ⟨a1, a2, a3, a4⟩ := am_of _ _ h.1
  obtain ⟨b1, b2, b3, b4⟩ := am_of _ _ h.2
  omega
theorem add_con {n d p q : Int} (h : addOk n d p q = true) (W : World) : Calls Try.prog 30 #[.agg #[.int .i64 n, .int .i64 d], .agg #[.int .i64 p, .int .i64 q]] W fun e w' => e = .returned (.tuple #[.agg #[.int .i64 (addR n d p q).1, .int .i64 (addR n d p q).2], .bool true]) ∧ Below W.heap.size W w' := by
  simp only [addOk, Bool.and_eq_true] at h
  have hb := okk_bd h.1
  have hc := plus_pub_impl n d p q (by omega) (by omega) (by omega) (by omega) W
  rw [h.1, (two_yes _ _).1, (two_yes _ _).2.1, (two_yes _ _).2.2, h.2] at hc
  exact hc
theorem sub_con {n d p q : Int} (h : subOk n d p q = true) (W : World) : Calls Try.prog 28 #[.agg #[.int .i64 n, .int .i64 d], .agg #[.int .i64 p, .int .i64 q]] W fun e w' => e = .returned (.tuple #[.agg #[.int .i64 (subR n d p q).1, .int .i64 (subR n d p q).2], .bool true]) ∧ Below W.heap.size W w' := by
  simp only [subOk, Bool.and_eq_true] at h
  have hb := okk_bd h.1
  have hc := minus_pub_impl n d p q (by omega) (by omega) (by omega) (by omega) W
  rw [h.1, (two_yes _ _).1, (two_yes _ _).2.1, (two_yes _ _).2.2, h.2] at hc
  exact hc
theorem mul_con {n d p q : Int} (h : mulOk n d p q = true) (W : World) : Calls Try.prog 29 #[.agg #[.int .i64 n, .int .i64 d], .agg #[.int .i64 p, .int .i64 q]] W fun e w' => e = .returned (.tuple #[.agg #[.int .i64 (mulR n d p q).1, .int .i64 (mulR n d p q).2], .bool true]) ∧ Below W.heap.size W w' := by
  simp only [mulOk, Bool.and_eq_true] at h
  have hb := okk_bd h.1
  have hc := times_pub_impl n d p q (by omega) (by omega) (by omega) (by omega) W
  rw [h.1, (two_yes _ _).1, (two_yes _ _).2.1, (two_yes _ _).2.2, h.2] at hc
  exact hc
set_option maxHeartbeats 800000 in
theorem is_con {n d p q : Int} (h : isOk n d p q = true) (W : World) : Calls Try.prog 27 #[.agg #[.int .i64 n, .int .i64 d], .int .i64 p, .int .i64 q] W fun e w' => e = .returned (.bool true) ∧ Below W.heap.size W w' := by
  simp only [isOk, sm, Bool.and_eq_true, decide_eq_true_eq, beq_iff_eq] at h
  obtain ⟨⟨⟨⟨⟨bn, bd⟩, bp⟩, bq⟩, hd⟩, he⟩ := h
  have m1 := mul_bd n q bn.1 bn.2 bq.1 bq.2
  have m2 := mul_bd p d bp.1 bp.2 bd.1 bd.2
  go_enter Try.func27, Try.ntmps27
  go_wp2
  all_goals first | (exfalso; omega) | (go_ret; exact ⟨rfl, by (repeat (first | with_reducible exact Below.refl _ _ | with_reducible assumption | with_reducible refine balloc ?_ _ | with_reducible refine bdrew ?_ | with_reducible refine below_drewN ?_ _ | with_reducible refine bset ?_ ?_ _ | with_reducible exact Nat.le_refl _ | with_reducible refine bsize ?_ | (dsimp only; refine Nat.le_trans ?_ (Nat.le_add_right _ _)) | with_reducible refine Nat.le_trans ?_ (Nat.le_add_right _ _) | (with_reducible refine bstep ?_ (by assumption))))⟩)
set_option maxHeartbeats 800000 in
theorem less_con {n d p q : Int} (bn : sm n = true) (bd : sm d = true) (bp : sm p = true) (bq : sm q = true) (W : World) : Calls Try.prog 47 #[.agg #[.int .i64 n, .int .i64 d], .agg #[.int .i64 p, .int .i64 q]] W fun e w' => e = .returned (.bool (lessV n d p q)) ∧ Below W.heap.size W w' := by
  simp only [sm, decide_eq_true_eq] at bn bd bp bq
  have m1 := mul_bd n q bn.1 bn.2 bq.1 bq.2
  have m2 := mul_bd p d bp.1 bp.2 bd.1 bd.2
  unfold lessV
  go_enter Try.func47, Try.ntmps47
  go_wp2
  go_ret
  exact ⟨rfl, by (repeat (first | with_reducible exact Below.refl _ _ | with_reducible assumption | with_reducible refine balloc ?_ _ | with_reducible refine bdrew ?_ | with_reducible refine below_drewN ?_ _ | with_reducible refine bset ?_ ?_ _ | with_reducible exact Nat.le_refl _ | with_reducible refine bsize ?_ | (dsimp only; refine Nat.le_trans ?_ (Nat.le_add_right _ _)) | with_reducible refine Nat.le_trans ?_ (Nat.le_add_right _ _) | (with_reducible refine bstep ?_ (by assumption))))⟩
theorem row_at {α : Type} {m : Nat} {f : α → List Int} (hm : ∀ x, (f x).length = m) {w : World} {base e : Nat} {a : Option Addr} {cap n : Nat} {l : List α} (hn : l.length = n) (h : w.ownsRow base e m (.slice a n cap) n (cellsG f l)) {i : Nat} {p : α} (hp : l[i]? = some p) :
    ∃ g, a = some ⟨g, 0, none⟩ ∧ g < w.heap.size ∧ n ≤ cap ∧ cap ≤ 9223372036854775807 ∧ ∀ j y, (f p)[j]? = some y → w.cell? ⟨g, i * m + j, none⟩ = some (.int .i64 y) := by
  have hi : i < n := by rw [← hn]; exact (List.getElem?_eq_some_iff.1 hp).1
  have h' := h
  obtain ⟨_, hs⟩ := h'
  rcases hs with ⟨_, h0⟩ | ⟨g', cap', cur, hv, _, _, hle, hcap, _⟩
  · omega
  · injection hv with h1 h2 h3
    subst h1 h3
    refine ⟨g', rfl, own_lt h rfl, by omega, by unfold maxLen at hcap; omega, fun j y hy => ?_⟩
    have hj : j < m := by have := (List.getElem?_eq_some_iff.1 hy).1; rw [hm] at this; exact this
    have hlt : i * m + j < n * m := by
      have : (i + 1) * m ≤ n * m := Nat.mul_le_mul_right m (by omega)
      rw [Nat.add_mul] at this; omega
    rw [h.cellAt _ hlt]
    exact cellsG_get hm l i p hp j y hy
end Go.Proofs.Ytgpbkjakmbmccaa
