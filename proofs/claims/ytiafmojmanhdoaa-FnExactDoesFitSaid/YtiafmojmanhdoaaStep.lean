/- Contracts of SteppedSum on both sides. -/
import Derived.Test.YtiafmojmanhdoaaLawBase
import Derived.Test.YtiafmojmanhdoaaReck1
import Derived.Test.YtiafmojmanhdoaaReck3
import Derived.Test.YtiafmojmanhdoaaPubS1
import Derived.Test.YtiafmojmanhdoaaPubS3
import Derived.IntWalk
namespace Go.Proofs.Ytiafmojmanhdoaa
open Go.RowKit
set_option linter.unusedVariables false
set_option linter.unusedSimpArgs false

theorem am_whole (k : Int) (h0 : 0 ≤ k) (h1 : k ≤ 1000000000) : amB k 1 = true := by
  rw [amB_iff]; refine ⟨h0, h1, by omega, by omega, ?_⟩
  unfold gi; rw [Int.gcd_one_right]; rfl
theorem whole_is_impl (k : Int) (w : World) :
    Calls Try.prog 127 #[.int .i64 k] w fun e w' => e = .returned (.agg #[.int .i64 k, .int .i64 1]) ∧ w.alloc (.cells #[.int .i64 k, .int .i64 1] 101) = w' := by
  go_enter Try.func127, Try.ntmps127
  go_wp2
  exact bodyPost_ret (v := .agg #[.int .i64 k, .int .i64 1]) (by simp [results, Try.results127, go_sem]) rfl ⟨rfl, rfl⟩
/-- n (n - 1) / 2 -/
abbrev tri (k : Int) : Int := k * (k - 1) / 2
theorem tri_bd (k : Int) (h0 : 0 ≤ k) (h1 : k ≤ 1000) : 0 ≤ tri k ∧ tri k ≤ 499500 ∧ 0 ≤ k * (k - 1) ∧ k * (k - 1) ≤ 999000 := by
  have h : 0 ≤ k * (k - 1) ∧ k * (k - 1) ≤ 999000 := by
    by_cases hk : k = 0
    · subst hk; omega
    · exact ⟨Int.mul_nonneg h0 (by omega), Int.le_trans (Int.mul_le_mul h1 (show k - 1 ≤ 999 by omega) (by omega) (by omega)) (by omega)⟩
  unfold tri; omega

/-- Can the sum be made? -/
def stK (n d p q k : Int) : Bool := inB k 0 1000 && (amB n d && lowB (n * k) d) && (amB p q && lowB (p * tri k) q)
def stX (n d k : Int) : Int := lowN (n * k) d
def stY (n d k : Int) : Int := lowD (n * k) d
def stN (n d p q k : Int) : Int := stX n d k * stY p q (tri k) + stX p q (tri k) * stY n d k
def stD (n d p q k : Int) : Int := stY n d k * stY p q (tri k)

/-- Two boxed parameters and the variable of the result. -/
def boxed3 (w : World) (n d p q : Int) : World := ((w.alloc (.cells #[.int .i64 n, .int .i64 d] 101)).alloc (.cells #[.int .i64 p, .int .i64 q] 101)).alloc (.cells #[.int .i64 0, .int .i64 0] 101)
structure Boxed3 (w V : World) (n d p q : Int) : Prop where
  c1 : V.cell? ⟨w.heap.size, 0, none⟩ = some (.int .i64 n)
  c2 : V.cell? ⟨w.heap.size, 1, none⟩ = some (.int .i64 d)
  c3 : V.cell? ⟨w.heap.size + 1, 0, none⟩ = some (.int .i64 p)
  c4 : V.cell? ⟨w.heap.size + 1, 1, none⟩ = some (.int .i64 q)
  r1 : V.cell? ⟨w.heap.size + 1 + 1, 0, none⟩ = some (.int .i64 0)
  r2 : V.cell? ⟨w.heap.size + 1 + 1, 1, none⟩ = some (.int .i64 0)
  r3 : V.frozen? ⟨w.heap.size + 1 + 1, 0, none⟩ = false
  r4 : V.frozen? ⟨w.heap.size + 1 + 1, 1, none⟩ = false
  hs : w.heap.size + 1 + 1 < V.heap.size
  below : Below w.heap.size w V
theorem boxed3_is (w : World) (n d p q : Int) : Boxed3 w (boxed3 w n d p q) n d p q := by
  unfold boxed3
  refine ⟨by simp [go_sem], by simp [go_sem], by simp [go_sem], by simp [go_sem], by simp [go_sem], by simp [go_sem], by simp [go_sem], by simp [go_sem], by simp, ?_⟩
  (repeat (first | with_reducible exact Below.refl _ _ | with_reducible assumption | with_reducible refine balloc ?_ _ | with_reducible refine bdrew ?_ | with_reducible refine below_drewN ?_ _ | with_reducible refine bset ?_ ?_ _ | with_reducible exact Nat.le_refl _ | with_reducible refine bsize ?_ | (dsimp only; refine Nat.le_trans ?_ (Nat.le_add_right _ _)) | with_reducible refine Nat.le_trans ?_ (Nat.le_add_right _ _) | (with_reducible refine bstep ?_ (by assumption))))
theorem keepf {W0 wp : World} {b o : Nat} {v : Bool} (h0 : Below W0.heap.size W0 wp) (hlt : b < W0.heap.size) (hc : W0.frozen? ⟨b, o, none⟩ = v) : wp.frozen? ⟨b, o, none⟩ = v := by
  rw [h0.frozen (p := ⟨b, o, none⟩) hlt]; exact hc
theorem boxed3_later {w V V' : World} {n d p q : Int} (h : Boxed3 w V n d p q) (hb : Below V.heap.size V V') : Boxed3 w V' n d p q :=
  ⟨keepa hb (by have := h.hs; omega) h.c1, keepa hb (by have := h.hs; omega) h.c2, keepa hb (by have := h.hs; omega) h.c3, keepa hb (by have := h.hs; omega) h.c4, keepa hb h.hs h.r1, keepa hb h.hs h.r2, keepf hb h.hs h.r3, keepf hb h.hs h.r4, Nat.lt_of_lt_of_le h.hs hb.size, bstep h.below hb⟩

theorem stK_1 (n d p q k : Int) (h : twoB (amB n d) (n * k) d = false) : stK n d p q k = false := by
  unfold twoB at h; simp [stK, h]
theorem stK_2 (n d p q k : Int) (h : twoB (amB p q) (p * tri k) q = false) : stK n d p q k = false := by
  unfold twoB at h; simp [stK, h]
theorem stK_3 (n d p q k : Int) (h1 : twoB (amB n d) (n * k) d = true) (h2 : twoB (amB p q) (p * tri k) q = true) (h3 : inB k 0 1000 = true) : stK n d p q k = true ∧
    twoN (amB n d) (n * k) d = stX n d k ∧ twoD (amB n d) (n * k) d = stY n d k ∧ twoN (amB p q) (p * tri k) q = stX p q (tri k) ∧ twoD (amB p q) (p * tri k) q = stY p q (tri k) ∧ amB (stX n d k) (stY n d k) = true ∧ amB (stX p q (tri k)) (stY p q (tri k)) = true := by
  unfold twoB at h1 h2
  have a := (Bool.and_eq_true _ _ ▸ h1 : _ ∧ _)
  have b := (Bool.and_eq_true _ _ ▸ h2 : _ ∧ _)
  refine ⟨by simp [stK, h3, h1, h2], by simp [twoN, stX, a.1], by simp [twoD, stY, a.1], by simp [twoN, stX, b.1], by simp [twoD, stY, b.1], amB_low _ _ a.2, amB_low _ _ b.2⟩

end Go.Proofs.Ytiafmojmanhdoaa
