/- Contracts of the model: two amounts, comparing, over the translated program. -/
import Derived.Test.YtgpbkjakmbmccaaOps
namespace Go.Proofs.Ytgpbkjakmbmccaa
open Go.RowKit
set_option linter.unusedSimpArgs false
set_option linter.unusedVariables false

def sgI (x : Int) : Int := if 0 < x then 1 else if x < 0 then -1 else 0
theorem sign_spec (x : Int) (w : World) :
    Calls Try.prog 122 #[.int .i64 x] w fun e w' => e = .returned (.int .i64 (sgI x)) ∧ w = w' := by
  by_cases h1 : 0 < x
  · go_enter Try.func122, Try.ntmps122
    go_wp2
    go_ret
    simp [sgI, h1]
  · by_cases h2 : x < 0
    · go_enter Try.func122, Try.ntmps122
      go_wp2
      go_ret
      simp [sgI, h1, h2]
    · obtain rfl : x = 0 := by omega
      go_enter Try.func122, Try.ntmps122
      go_wp2
      go_ret
      simp [sgI]

set_option maxHeartbeats 400000 in
theorem cmp_spec (n d p q : Int) (ha : Am n d) (hb : Am p q) (w : World) :
    Calls Try.prog 101 #[.agg #[.int .i64 n, .int .i64 d], .agg #[.int .i64 p, .int .i64 q]] w fun e w' => e = .returned (.int .i64 (sgI (n * q - p * d))) ∧ Below w.heap.size w w' := by
  have m1 := mul_bd n q ha.a ha.b (by have := hb.c; omega) hb.d
  have m2 := mul_bd p d hb.a hb.b (by have := ha.c; omega) ha.d
  have m3 := mul_bd d q (by have := ha.c; omega) ha.d (by have := hb.c; omega) hb.d
  have m4 := mul_bd n p ha.a ha.b hb.a hb.b
  have m5 := mul_bd d p (by have := ha.c; omega) ha.d hb.a hb.b
  have n3 := Int.mul_pos (show 0 < d by have := ha.c; omega) (show 0 < q by have := hb.c; omega)
  obtain ⟨h1, h2, h3, h4⟩ := ha
  obtain ⟨h5, h6, h7, h8⟩ := hb
  go_enter Try.func101, Try.ntmps101
  go_wp2_with (go_at_call 122; refine (sign_spec _ _).mono ?_; rintro e w1 ⟨rfl, rfl⟩)
  go_ret
  refine ⟨rfl, ?_⟩
  (repeat (first | with_reducible exact Below.refl _ _ | with_reducible assumption | with_reducible refine balloc ?_ _ | with_reducible refine bdrew ?_ | with_reducible refine below_drewN ?_ _ | with_reducible refine bset ?_ ?_ _ | with_reducible exact Nat.le_refl _ | with_reducible refine bsize ?_ | (dsimp only; refine Nat.le_trans ?_ (Nat.le_add_right _ _)) | with_reducible refine Nat.le_trans ?_ (Nat.le_add_right _ _) | (with_reducible refine bstep ?_ (by assumption))))
end Go.Proofs.Ytgpbkjakmbmccaa
