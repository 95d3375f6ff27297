/- Contracts of the four methods of fuel, over the translated program. -/
import Derived.Test.YtiafmojmanhdoaaMake
namespace Go.Proofs.Ytiafmojmanhdoaa
open Go.RowKit
set_option linter.unusedSimpArgs false
set_option linter.unusedVariables false

/-- The bounds of an amount. -/
structure Am (n d : Int) : Prop where
  a : 0 ≤ n
  b : n ≤ 1000000000
  c : 1 ≤ d
  d : d ≤ 1000000000
theorem am_of (n d : Int) (h : amB n d = true) : Am n d := by
  have := (amB_iff n d).1 h; exact ⟨this.1, this.2.1, this.2.2.1, this.2.2.2.1⟩
theorem mul_bd (x y : Int) (hx : 0 ≤ x) (hx' : x ≤ 1000000000) (hy : 0 ≤ y) (hy' : y ≤ 1000000000) : 0 ≤ x * y ∧ x * y ≤ 1000000000000000000 :=
  ⟨Int.mul_nonneg hx hy, Int.le_trans (Int.mul_le_mul hx' hy' hy (by omega)) (by omega)⟩

def twoB (k : Bool) (n d : Int) : Bool := k && lowB n d
def twoN (k : Bool) (n d : Int) : Int := if k = true then lowN n d else 0
def twoD (k : Bool) (n d : Int) : Int := if k = true then lowD n d else 0
theorem two_yes (n d : Int) : twoN true n d = lowN n d ∧ twoD true n d = lowD n d ∧ twoB true n d = lowB n d := by simp [twoN, twoD, twoB]
theorem two_no (n d : Int) : twoN false n d = 0 ∧ twoD false n d = 0 ∧ twoB false n d = false := by simp [twoN, twoD, twoB]
def okk (n d p q : Int) : Bool := amB n d && amB p q

set_option maxHeartbeats 400000 in
theorem minus_impl (n d p q : Int) (ha : Am n d) (hb : Am p q) (w : World) :
    Calls Try.prog 137 #[.agg #[.int .i64 n, .int .i64 d], .agg #[.int .i64 p, .int .i64 q]] w fun e w' => e = .returned (.tuple #[.agg #[.int .i64 (lowN (n * q - p * d) (d * q)), .int .i64 (lowD (n * q - p * d) (d * q))], .bool (lowB (n * q - p * d) (d * q))]) ∧ Below w.heap.size w w' := by
  have m1 := mul_bd n q ha.a ha.b (by have := hb.c; omega) hb.d
  have m2 := mul_bd p d hb.a hb.b (by have := ha.c; omega) ha.d
  have m3 := mul_bd d q (by have := ha.c; omega) ha.d (by have := hb.c; omega) hb.d
  have m4 := mul_bd n p ha.a ha.b hb.a hb.b
  have m5 := mul_bd d p (by have := ha.c; omega) ha.d hb.a hb.b
  have n3 := Int.mul_pos (show 0 < d by have := ha.c; omega) (show 0 < q by have := hb.c; omega)
  obtain ⟨h1, h2, h3, h4⟩ := ha
  obtain ⟨h5, h6, h7, h8⟩ := hb
  go_enter Try.func137, Try.ntmps137
  (go_wp2_with fail; refine (low_impl _ _ (by omega) (by omega) _).mono ?_; rintro e w1 ⟨rfl, hb1⟩; have ha1 := hb1; obtain ⟨kc1, kf1, kz1, ky1, kx1, kv1, ku1⟩ := bcell hb1)
  go_wp2
  refine bodyPost_ret (v := .tuple #[.agg #[.int .i64 (lowN (n * q - p * d) (d * q)), .int .i64 (lowD (n * q - p * d) (d * q))], .bool (lowB (n * q - p * d) (d * q))]) (by simp only [results, Try.results137]; go_simp) rfl ⟨rfl, ?_⟩
  (repeat (first | with_reducible exact Below.refl _ _ | with_reducible assumption | with_reducible refine balloc ?_ _ | with_reducible refine bdrew ?_ | with_reducible refine below_drewN ?_ _ | with_reducible refine bset ?_ ?_ _ | with_reducible exact Nat.le_refl _ | with_reducible refine bsize ?_ | (dsimp only; refine Nat.le_trans ?_ (Nat.le_add_right _ _)) | with_reducible refine Nat.le_trans ?_ (Nat.le_add_right _ _) | (with_reducible refine bstep ?_ (by assumption))))

end Go.Proofs.Ytiafmojmanhdoaa
