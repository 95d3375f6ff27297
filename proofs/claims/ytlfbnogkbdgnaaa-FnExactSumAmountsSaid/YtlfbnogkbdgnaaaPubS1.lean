/- The contracts of amAdd and AddAmounts, of the model, over the translated program. -/
import Derived.Test.YtlfbnogkbdgnaaaOpsS
namespace Go.Proofs.Ytlfbnogkbdgnaaa
open Go.RowKit
set_option linter.unusedSimpArgs false
set_option linter.unusedVariables false

set_option maxHeartbeats 400000 in
theorem amAdd_spec (n d p q : Int) (ha : Am n d) (hb : Am p q) (w : World) :
    Calls Try.prog 62 #[.agg #[.int .i64 n, .int .i64 d], .agg #[.int .i64 p, .int .i64 q]] w fun e w' => e = .returned (.tuple #[.agg #[.int .i64 (lowN (n * q + p * d) (d * q)), .int .i64 (lowD (n * q + p * d) (d * q))], .bool (lowB (n * q + p * d) (d * q))]) ∧ Below w.heap.size w w' := by
  have m1 := mul_bd n q ha.a ha.b (by have := hb.c; omega) hb.d
  have m2 := mul_bd p d hb.a hb.b (by have := ha.c; omega) ha.d
  have m3 := mul_bd d q (by have := ha.c; omega) ha.d (by have := hb.c; omega) hb.d
  have m4 := mul_bd n p ha.a ha.b hb.a hb.b
  have m5 := mul_bd d p (by have := ha.c; omega) ha.d hb.a hb.b
  have n3 := Int.mul_pos (show 0 < d by have := ha.c; omega) (show 0 < q by have := hb.c; omega)
  obtain ⟨h1, h2, h3, h4⟩ := ha
  obtain ⟨h5, h6, h7, h8⟩ := hb
  go_enter Try.func62, Try.ntmps62
  (go_wp2_with fail; refine (make_spec _ _ (by omega) (by omega) (by omega) (by omega) _).mono ?_; rintro e w1 ⟨rfl, hb1⟩; have ha1 := hb1; obtain ⟨kc1, kf1, kz1, ky1, kx1, kv1, ku1⟩ := bcell hb1)
  go_wp2
  refine bodyPost_ret (v := .tuple #[.agg #[.int .i64 (lowN (n * q + p * d) (d * q)), .int .i64 (lowD (n * q + p * d) (d * q))], .bool (lowB (n * q + p * d) (d * q))]) (by simp only [results, Try.results62]; go_simp) rfl ⟨rfl, ?_⟩
  (repeat (first | exact Below.refl _ _ | assumption | refine balloc ?_ _ | refine bdrew ?_ | refine bset ?_ ?_ _ | exact Nat.le_refl _ | refine bsize ?_ | (dsimp only; refine Nat.le_trans ?_ (Nat.le_add_right _ _)) | refine Nat.le_trans ?_ (Nat.le_add_right _ _) | (refine bstep ?_ (by assumption))))

set_option maxHeartbeats 400000 in
theorem plus_pub_spec (n d p q : Int) (w : World) :
    Calls Try.prog 24 #[.agg #[.int .i64 n, .int .i64 d], .agg #[.int .i64 p, .int .i64 q]] w fun e w' => e = .returned (.tuple #[.agg #[.int .i64 (twoN (okk n d p q) (n * q + p * d) (d * q)), .int .i64 (twoD (okk n d p q) (n * q + p * d) (d * q))], .bool (twoB (okk n d p q) (n * q + p * d) (d * q))]) ∧ Below w.heap.size w w' := by
  cases hk : okk n d p q
  · obtain ⟨e1, e2, e3⟩ := two_no (n * q + p * d) (d * q)
    rw [e1, e2, e3]; clear e1 e2 e3
    go_enter Try.func24, Try.ntmps24
    (go_wp2_with fail; refine (two_spec _ _ _ _ _).mono ?_; rintro e w1 ⟨rfl, hb1⟩; rw [hk]; have ha1 := hb1; obtain ⟨kc1, kf1, kz1, ky1, kx1, kv1, ku1⟩ := bcell hb1)
    go_wp2
    refine bodyPost_ret (v := .tuple #[.agg #[.int .i64 0, .int .i64 0], .bool false]) (by simp only [results, Try.results24]; go_simp) rfl ⟨rfl, ?_⟩
    (repeat (first | exact Below.refl _ _ | assumption | refine balloc ?_ _ | refine bdrew ?_ | refine bset ?_ ?_ _ | exact Nat.le_refl _ | refine bsize ?_ | (dsimp only; refine Nat.le_trans ?_ (Nat.le_add_right _ _)) | refine Nat.le_trans ?_ (Nat.le_add_right _ _) | (refine bstep ?_ (by assumption))))
  · have hk' := hk
    unfold okk at hk'
    rw [Bool.and_eq_true] at hk'
    have ca := am_of n d hk'.1
    have cb := am_of p q hk'.2
    obtain ⟨e1, e2, e3⟩ := two_yes (n * q + p * d) (d * q)
    rw [e1, e2, e3]; clear e1 e2 e3 hk'
    go_enter Try.func24, Try.ntmps24
    (go_wp2_with fail; refine (two_spec _ _ _ _ _).mono ?_; rintro e w1 ⟨rfl, hb1⟩; rw [hk]; have ha1 := hb1; obtain ⟨kc1, kf1, kz1, ky1, kx1, kv1, ku1⟩ := bcell hb1)
    (go_wp2_with fail; refine (amAdd_spec _ _ _ _ ca cb _).mono ?_; rintro e w2 ⟨rfl, hb2⟩; have ha2 := bjoin ha1 hb2 (by (repeat (first | exact Below.refl _ _ | assumption | refine balloc ?_ _ | refine bdrew ?_ | refine bset ?_ ?_ _ | exact Nat.le_refl _ | refine bsize ?_ | (dsimp only; refine Nat.le_trans ?_ (Nat.le_add_right _ _)) | refine Nat.le_trans ?_ (Nat.le_add_right _ _) | (refine bstep ?_ (by assumption))))); obtain ⟨kc2, kf2, kz2, ky2, kx2, kv2, ku2⟩ := bcell hb2; obtain ⟨jc2, jf2, jz2, jy2, jx2, jv2, ju2⟩ := bcell ha2)
    go_wp2
    refine bodyPost_ret (v := .tuple #[.agg #[.int .i64 (lowN (n * q + p * d) (d * q)), .int .i64 (lowD (n * q + p * d) (d * q))], .bool (lowB (n * q + p * d) (d * q))]) (by simp only [results, Try.results24]; go_simp) rfl ⟨rfl, ?_⟩
    (repeat (first | exact Below.refl _ _ | assumption | refine balloc ?_ _ | refine bdrew ?_ | refine bset ?_ ?_ _ | exact Nat.le_refl _ | refine bsize ?_ | (dsimp only; refine Nat.le_trans ?_ (Nat.le_add_right _ _)) | refine Nat.le_trans ?_ (Nat.le_add_right _ _) | (refine bstep ?_ (by assumption))))
end Go.Proofs.Ytlfbnogkbdgnaaa
