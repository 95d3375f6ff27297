/- The contracts of amTimes and TimesAmount, of the model, over the translated program. -/
import Derived.Test.YtgpbkjakmbmccaaOpsS
namespace Go.Proofs.Ytgpbkjakmbmccaa
open Go.RowKit
set_option linter.unusedSimpArgs false
set_option linter.unusedVariables false

set_option maxHeartbeats 400000 in
theorem amTimes_spec (n d p q : Int) (ha : Am n d) (hb : Am p q) (w : World) :
    Calls Try.prog 67 #[.agg #[.int .i64 n, .int .i64 d], .agg #[.int .i64 p, .int .i64 q]] w fun e w' => e = .returned (.tuple #[.agg #[.int .i64 (lowN (n * p) (d * q)), .int .i64 (lowD (n * p) (d * q))], .bool (lowB (n * p) (d * q))]) ∧ Below w.heap.size w w' := by
  have m1 := mul_bd n q ha.a ha.b (by have := hb.c; omega) hb.d
  have m2 := mul_bd p d hb.a hb.b (by have := ha.c; omega) ha.d
  have m3 := mul_bd d q (by have := ha.c; omega) ha.d (by have := hb.c; omega) hb.d
  have m4 := mul_bd n p ha.a ha.b hb.a hb.b
  have m5 := mul_bd d p (by have := ha.c; omega) ha.d hb.a hb.b
  have n3 := Int.mul_pos (show 0 < d by have := ha.c; omega) (show 0 < q by have := hb.c; omega)
  obtain ⟨h1, h2, h3, h4⟩ := ha
  obtain ⟨h5, h6, h7, h8⟩ := hb
  go_enter Try.func67, Try.ntmps67
  (go_wp2_with fail; refine (make_spec _ _ (by omega) (by omega) (by omega) (by omega) _).mono ?_; rintro e w1 ⟨rfl, hb1⟩; have ha1 := hb1; obtain ⟨kc1, kf1, kz1, ky1, kx1, kv1, ku1⟩ := bcell hb1)
  go_wp2
  refine bodyPost_ret (v := .tuple #[.agg #[.int .i64 (lowN (n * p) (d * q)), .int .i64 (lowD (n * p) (d * q))], .bool (lowB (n * p) (d * q))]) (by simp only [results, Try.results67]; go_simp) rfl ⟨rfl, ?_⟩
  (repeat (first | with_reducible exact Below.refl _ _ | with_reducible assumption | with_reducible refine balloc ?_ _ | with_reducible refine bdrew ?_ | with_reducible refine below_drewN ?_ _ | with_reducible refine bset ?_ ?_ _ | with_reducible exact Nat.le_refl _ | with_reducible refine bsize ?_ | (dsimp only; refine Nat.le_trans ?_ (Nat.le_add_right _ _)) | with_reducible refine Nat.le_trans ?_ (Nat.le_add_right _ _) | (with_reducible refine bstep ?_ (by assumption))))

end Go.Proofs.Ytgpbkjakmbmccaa
