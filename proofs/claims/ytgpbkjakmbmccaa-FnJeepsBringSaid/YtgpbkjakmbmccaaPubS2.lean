/- The contracts of amLess and LessAmount, of the model, over the translated program. -/
import Derived.Test.YtgpbkjakmbmccaaOpsS
namespace Go.Proofs.Ytgpbkjakmbmccaa
open Go.RowKit
set_option linter.unusedSimpArgs false
set_option linter.unusedVariables false

set_option maxHeartbeats 400000 in
theorem amLess_spec_no (n d p q : Int) (ha : Am n d) (hb : Am p q) (hz : n * q - p * d < 0) (w : World) :
    Calls Try.prog 66 #[.agg #[.int .i64 n, .int .i64 d], .agg #[.int .i64 p, .int .i64 q]] w fun e w' => e = .returned (.tuple #[.agg #[.int .i64 0, .int .i64 0], .bool false]) ∧ Below w.heap.size w w' := by
  have hs : sgI (n * q - p * d) = -1 := by unfold sgI; rw [if_neg (by omega), if_pos hz]
  have ca := ha
  have cb := hb
  have m1 := mul_bd n q ha.a ha.b (by have := hb.c; omega) hb.d
  have m2 := mul_bd p d hb.a hb.b (by have := ha.c; omega) ha.d
  have m3 := mul_bd d q (by have := ha.c; omega) ha.d (by have := hb.c; omega) hb.d
  have m4 := mul_bd n p ha.a ha.b hb.a hb.b
  have m5 := mul_bd d p (by have := ha.c; omega) ha.d hb.a hb.b
  have n3 := Int.mul_pos (show 0 < d by have := ha.c; omega) (show 0 < q by have := hb.c; omega)
  obtain ⟨h1, h2, h3, h4⟩ := ha
  obtain ⟨h5, h6, h7, h8⟩ := hb
  go_enter Try.func66, Try.ntmps66
  (go_wp2_with fail; refine (cmp_spec _ _ _ _ ca cb _).mono ?_; rintro e w1 ⟨rfl, hb1⟩; rw [hs]; have ha1 := hb1; obtain ⟨kc1, kf1, kz1, ky1, kx1, kv1, ku1⟩ := bcell hb1)
  go_wp2
  refine bodyPost_ret (v := .tuple #[.agg #[.int .i64 0, .int .i64 0], .bool false]) (by simp only [results, Try.results66]; go_simp) rfl ⟨rfl, ?_⟩
  (repeat (first | with_reducible exact Below.refl _ _ | with_reducible assumption | with_reducible refine balloc ?_ _ | with_reducible refine bdrew ?_ | with_reducible refine below_drewN ?_ _ | with_reducible refine bset ?_ ?_ _ | with_reducible exact Nat.le_refl _ | with_reducible refine bsize ?_ | (dsimp only; refine Nat.le_trans ?_ (Nat.le_add_right _ _)) | with_reducible refine Nat.le_trans ?_ (Nat.le_add_right _ _) | (with_reducible refine bstep ?_ (by assumption))))
set_option maxHeartbeats 400000 in
theorem amLess_spec_yes (n d p q : Int) (ha : Am n d) (hb : Am p q) (hz : 0 ≤ n * q - p * d) (w : World) :
    Calls Try.prog 66 #[.agg #[.int .i64 n, .int .i64 d], .agg #[.int .i64 p, .int .i64 q]] w fun e w' => e = .returned (.tuple #[.agg #[.int .i64 (lowN (n * q - p * d) (d * q)), .int .i64 (lowD (n * q - p * d) (d * q))], .bool (lowB (n * q - p * d) (d * q))]) ∧ Below w.heap.size w w' := by
  have hs : ¬ sgI (n * q - p * d) < 0 := by unfold sgI; split <;> (try split) <;> omega
  have ca := ha
  have cb := hb
  have m1 := mul_bd n q ha.a ha.b (by have := hb.c; omega) hb.d
  have m2 := mul_bd p d hb.a hb.b (by have := ha.c; omega) ha.d
  have m3 := mul_bd d q (by have := ha.c; omega) ha.d (by have := hb.c; omega) hb.d
  have m4 := mul_bd n p ha.a ha.b hb.a hb.b
  have m5 := mul_bd d p (by have := ha.c; omega) ha.d hb.a hb.b
  have n3 := Int.mul_pos (show 0 < d by have := ha.c; omega) (show 0 < q by have := hb.c; omega)
  obtain ⟨h1, h2, h3, h4⟩ := ha
  obtain ⟨h5, h6, h7, h8⟩ := hb
  go_enter Try.func66, Try.ntmps66
  (go_wp2_with fail; refine (cmp_spec _ _ _ _ ca cb _).mono ?_; rintro e w1 ⟨rfl, hb1⟩; have ha1 := hb1; obtain ⟨kc1, kf1, kz1, ky1, kx1, kv1, ku1⟩ := bcell hb1)
  (go_wp2_with fail; refine (make_spec _ _ (by omega) (by omega) (by omega) (by omega) _).mono ?_; rintro e w2 ⟨rfl, hb2⟩; have ha2 := bjoin ha1 hb2 (by (repeat (first | with_reducible exact Below.refl _ _ | with_reducible assumption | with_reducible refine balloc ?_ _ | with_reducible refine bdrew ?_ | with_reducible refine below_drewN ?_ _ | with_reducible refine bset ?_ ?_ _ | with_reducible exact Nat.le_refl _ | with_reducible refine bsize ?_ | (dsimp only; refine Nat.le_trans ?_ (Nat.le_add_right _ _)) | with_reducible refine Nat.le_trans ?_ (Nat.le_add_right _ _) | (with_reducible refine bstep ?_ (by assumption))))); obtain ⟨kc2, kf2, kz2, ky2, kx2, kv2, ku2⟩ := bcell hb2; obtain ⟨jc2, jf2, jz2, jy2, jx2, jv2, ju2⟩ := bcell ha2)
  go_wp2
  refine bodyPost_ret (v := .tuple #[.agg #[.int .i64 (lowN (n * q - p * d) (d * q)), .int .i64 (lowD (n * q - p * d) (d * q))], .bool (lowB (n * q - p * d) (d * q))]) (by simp only [results, Try.results66]; go_simp) rfl ⟨rfl, ?_⟩
  (repeat (first | with_reducible exact Below.refl _ _ | with_reducible assumption | with_reducible refine balloc ?_ _ | with_reducible refine bdrew ?_ | with_reducible refine below_drewN ?_ _ | with_reducible refine bset ?_ ?_ _ | with_reducible exact Nat.le_refl _ | with_reducible refine bsize ?_ | (dsimp only; refine Nat.le_trans ?_ (Nat.le_add_right _ _)) | with_reducible refine Nat.le_trans ?_ (Nat.le_add_right _ _) | (with_reducible refine bstep ?_ (by assumption))))
theorem amLess_spec (n d p q : Int) (ha : Am n d) (hb : Am p q) (w : World) :
    Calls Try.prog 66 #[.agg #[.int .i64 n, .int .i64 d], .agg #[.int .i64 p, .int .i64 q]] w fun e w' => e = .returned (.tuple #[.agg #[.int .i64 (lowN (n * q - p * d) (d * q)), .int .i64 (lowD (n * q - p * d) (d * q))], .bool (lowB (n * q - p * d) (d * q))]) ∧ Below w.heap.size w w' := by
  by_cases hz : n * q - p * d < 0
  · have hb' : lowB (n * q - p * d) (d * q) = false := by
      cases h : lowB (n * q - p * d) (d * q)
      · rfl
      · have := (lowB_iff _ _).1 h; omega
    rw [lowN_no _ _ hb', lowD_no _ _ hb', hb']
    exact amLess_spec_no n d p q ha hb hz w
  · exact amLess_spec_yes n d p q ha hb (by omega) w

end Go.Proofs.Ytgpbkjakmbmccaa
