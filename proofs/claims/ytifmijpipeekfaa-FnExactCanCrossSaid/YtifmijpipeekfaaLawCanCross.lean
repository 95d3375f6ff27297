/- The law FnExactCanCross, for every two amounts (also what is none): the program answers as the model. No condition. -/
import Derived.Test.YtifmijpipeekfaaEnough
namespace Go.Proofs.Ytifmijpipeekfaa
open Go.ChangeShapes Go.WideShapes Go.ChangeAt Go.RowKit Go.Joins
set_option maxRecDepth 100000
set_option linter.unusedVariables false
set_option linter.unusedSimpArgs false

def ResCanCross (x B : Bool) (V : World) (s5 s6 : Value) (wx : World) : Prop := s5 = .bool x ∧ s6 = .bool B ∧ Below V.heap.size V wx
set_option maxHeartbeats 800000 in
theorem outC_spec (n d : Int) (bn : -9223372036854775808 ≤ n ∧ n ≤ 9223372036854775807) (bd : -9223372036854775808 ≤ d ∧ d ≤ 9223372036854775807) (p q : Int) (bp : -9223372036854775808 ≤ p ∧ p ≤ 9223372036854775807) (bq : -9223372036854775808 ≤ q ∧ q ≤ 9223372036854775807) (w : World) :
    Calls Try.prog 55 #[.agg #[.int .i64 n, .int .i64 d], .agg #[.int .i64 p, .int .i64 q]] w fun e w' => e = .returned (.tuple #[.bool (ceV 1 n d p q), .bool (ceB 1 n d p q)]) ∧ Below w.heap.size w w' := by
  go_enter Try.func55, Try.ntmps55
  (go_wp2_with fail; refine (enough_spec_out n d bn bd p q bp bq _).mono ?_; rintro e w1 ⟨rfl, hb1⟩; have ha1 := hb1; obtain ⟨kc1, kf1, kz1, ky1, kx1, kv1, ku1⟩ := bcell hb1)
  go_wp2
  go_ret2
  refine ⟨rfl, ?_⟩
  (repeat (first | with_reducible exact Below.refl _ _ | with_reducible assumption | with_reducible refine balloc ?_ _ | with_reducible refine bdrew ?_ | with_reducible refine below_drewN ?_ _ | with_reducible refine bset ?_ ?_ _ | with_reducible exact Nat.le_refl _ | with_reducible refine bsize ?_ | (dsimp only; refine Nat.le_trans ?_ (Nat.le_add_right _ _)) | with_reducible refine Nat.le_trans ?_ (Nat.le_add_right _ _) | (with_reducible refine bstep ?_ (by assumption))))
set_option maxHeartbeats 800000 in
theorem outC_impl (n d : Int) (bn : -9223372036854775808 ≤ n ∧ n ≤ 9223372036854775807) (bd : -9223372036854775808 ≤ d ∧ d ≤ 9223372036854775807) (p q : Int) (bp : -9223372036854775808 ≤ p ∧ p ≤ 9223372036854775807) (bq : -9223372036854775808 ≤ q ∧ q ≤ 9223372036854775807) (w : World) :
    Calls Try.prog 56 #[.agg #[.int .i64 n, .int .i64 d], .agg #[.int .i64 p, .int .i64 q]] w fun e w' => e = .returned (.tuple #[.bool (ceV 1 n d p q), .bool (ceB 1 n d p q)]) ∧ Below w.heap.size w w' := by
  go_enter Try.func56, Try.ntmps56
  (go_wp2_with fail; refine (enough_impl 1 n d (Or.inl rfl) bn bd p q bp bq _).mono ?_; rintro e w1 ⟨rfl, hb1⟩; have ha1 := hb1; obtain ⟨kc1, kf1, kz1, ky1, kx1, kv1, ku1⟩ := bcell hb1)
  go_wp2
  go_ret2
  refine ⟨rfl, ?_⟩
  (repeat (first | with_reducible exact Below.refl _ _ | with_reducible assumption | with_reducible refine balloc ?_ _ | with_reducible refine bdrew ?_ | with_reducible refine below_drewN ?_ _ | with_reducible refine bset ?_ ?_ _ | with_reducible exact Nat.le_refl _ | with_reducible refine bsize ?_ | (dsimp only; refine Nat.le_trans ?_ (Nat.le_add_right _ _)) | with_reducible refine Nat.le_trans ?_ (Nat.le_add_right _ _) | (with_reducible refine bstep ?_ (by assumption))))

set_option maxHeartbeats 1600000 in
theorem outC_walk (n d : Int) (bn : -9223372036854775808 ≤ n ∧ n ≤ 9223372036854775807) (bd : -9223372036854775808 ≤ d ∧ d ≤ 9223372036854775807) (p q : Int) (bp : -9223372036854775808 ≤ p ∧ p ≤ 9223372036854775807) (bq : -9223372036854775808 ≤ q ∧ q ≤ 9223372036854775807) (w : World) :
    Calls Try.prog 15 #[.agg #[.int .i64 n, .int .i64 d], .agg #[.int .i64 p, .int .i64 q]] w fun e w' => e = .returned (.bool true) ∧ Below w.heap.size w w' := by
  have hS := fun W => outC_spec n d bn bd p q bp bq W
  have hI := fun W => outC_impl n d bn bd p q bp bq W
  generalize ceV 1 n d p q = RV at *
  generalize ceB 1 n d p q = RB at *
  have HS := Lib.hid hS
  have HI := Lib.hid hI
  clear hS hI
  go_enter Try.func15, Try.ntmps15
  go_upto_region 1 with fail
  go_cut [5, 6] (ResCanCross RV RB (boxed w n d p q))
  case first =>
    have hV := boxed_is w n d p q
    change Code.wp _ _ _ _ (boxed w n d p q)
    generalize boxed w n d p q = V at *
    obtain ⟨c1, c2, c3, c4, hs, hbw⟩ := hV
    have a0 : w.heap.size < V.heap.size := by omega
    have b0 := hs
    have av : ∀ k, w.heap.size < V.heap.size + k := fun k => by omega
    have bv : ∀ k, w.heap.size + 1 < V.heap.size + k := fun k => by omega
    go_region_held3 (fun w' => w'.cell? ⟨w.heap.size, 0, none⟩ = some (.int .i64 n) ∧ w'.cell? ⟨w.heap.size, 1, none⟩ = some (.int .i64 d) ∧ w'.cell? ⟨w.heap.size + 1, 0, none⟩ = some (.int .i64 p) ∧ w'.cell? ⟨w.heap.size + 1, 1, none⟩ = some (.int .i64 q)) (((repeat' apply And.intro) <;> first | (simp [go_sem, c1, c2, c3, c4, av, bv, a0, b0]; done) | (simp [go_sem, e1, e2, s1, s2, s3, s4]; done) | go_keep)) (first | (go_at_call 25; refine (toAmt_is _ _ _).mono ?_; rintro e w1 ⟨rfl, rfl⟩) | (go_at_call 55; refine (HS.out _).mono ?_; rintro e w3 ⟨rfl, hb3⟩; obtain ⟨kc3, kf3, kz3, ky3, kx3, kv3, ku3⟩ := bcell hb3; (have e1 := kz3 w.heap.size (by first | (simp; done) | (simp; omega))); (have e2 := kz3 (w.heap.size + 1) (by first | (simp; done) | (simp; omega))); go_split_ands; (have s1 := (kc3 w.heap.size 0 (by first | (simp; done) | (simp; omega))).trans (by assumption)); (have s2 := (kc3 w.heap.size 1 (by first | (simp; done) | (simp; omega))).trans (by assumption)); (have s3 := (kc3 (w.heap.size + 1) 0 (by first | (simp; done) | (simp; omega))).trans (by assumption)); (have s4 := (kc3 (w.heap.size + 1) 1 (by first | (simp; done) | (simp; omega))).trans (by assumption))))
    all_goals (go_wp2_with fail; go_meet)
    all_goals refine ⟨rfl, rfl, ?_⟩
    all_goals (repeat (first | with_reducible exact Below.refl _ _ | with_reducible assumption | with_reducible refine balloc ?_ _ | with_reducible refine bdrew ?_ | with_reducible refine below_drewN ?_ _ | with_reducible refine bset ?_ ?_ _ | with_reducible exact Nat.le_refl _ | with_reducible refine bsize ?_ | (dsimp only; refine Nat.le_trans ?_ (Nat.le_add_right _ _)) | with_reducible refine Nat.le_trans ?_ (Nat.le_add_right _ _) | (with_reducible refine bstep ?_ (by assumption))))
  case rest =>
    obtain ⟨rfl, rfl, hgb⟩ := hcut
    have hV := boxed_later (boxed_is w n d p q) hgb
    generalize boxed w n d p q = V0 at *
    generalize wc = V at *
    go_upto_region 2 with fail
    go_cut [7, 8] (ResCanCross RV RB V)
    case first =>
      clear hgb
      obtain ⟨c1, c2, c3, c4, hs, hbw⟩ := hV
      have a0 : w.heap.size < V.heap.size := by omega
      have b0 := hs
      have av : ∀ k, w.heap.size < V.heap.size + k := fun k => by omega
      have bv : ∀ k, w.heap.size + 1 < V.heap.size + k := fun k => by omega
      go_region_held3 (fun w' => w'.cell? ⟨w.heap.size, 0, none⟩ = some (.int .i64 n) ∧ w'.cell? ⟨w.heap.size, 1, none⟩ = some (.int .i64 d) ∧ w'.cell? ⟨w.heap.size + 1, 0, none⟩ = some (.int .i64 p) ∧ w'.cell? ⟨w.heap.size + 1, 1, none⟩ = some (.int .i64 q)) (((repeat' apply And.intro) <;> first | (simp [go_sem, c1, c2, c3, c4, av, bv, a0, b0]; done) | (simp [go_sem, e1, e2, s1, s2, s3, s4]; done) | go_keep)) (first | (go_at_call 25; refine (toAmt_is _ _ _).mono ?_; rintro e w1 ⟨rfl, rfl⟩) | (go_at_call 56; refine (HI.out _).mono ?_; rintro e w3 ⟨rfl, hb3⟩; obtain ⟨kc3, kf3, kz3, ky3, kx3, kv3, ku3⟩ := bcell hb3; (have e1 := kz3 w.heap.size (by first | (simp; done) | (simp; omega))); (have e2 := kz3 (w.heap.size + 1) (by first | (simp; done) | (simp; omega))); go_split_ands; (have s1 := (kc3 w.heap.size 0 (by first | (simp; done) | (simp; omega))).trans (by assumption)); (have s2 := (kc3 w.heap.size 1 (by first | (simp; done) | (simp; omega))).trans (by assumption)); (have s3 := (kc3 (w.heap.size + 1) 0 (by first | (simp; done) | (simp; omega))).trans (by assumption)); (have s4 := (kc3 (w.heap.size + 1) 1 (by first | (simp; done) | (simp; omega))).trans (by assumption))))
      all_goals (go_wp2_with fail; go_meet)
      all_goals refine ⟨rfl, rfl, ?_⟩
      all_goals (repeat (first | with_reducible exact Below.refl _ _ | with_reducible assumption | with_reducible refine balloc ?_ _ | with_reducible refine bdrew ?_ | with_reducible refine below_drewN ?_ _ | with_reducible refine bset ?_ ?_ _ | with_reducible exact Nat.le_refl _ | with_reducible refine bsize ?_ | (dsimp only; refine Nat.le_trans ?_ (Nat.le_add_right _ _)) | with_reducible refine Nat.le_trans ?_ (Nat.le_add_right _ _) | (with_reducible refine bstep ?_ (by assumption))))
    case rest =>
      obtain ⟨rfl, rfl, hhb⟩ := hcut
      have hbw := bstep hV.below hhb
      clear hgb hV hhb
      go_wp2
      go_ret
      refine ⟨rfl, ?_⟩
      (repeat (first | with_reducible exact Below.refl _ _ | with_reducible assumption | with_reducible refine balloc ?_ _ | with_reducible refine bdrew ?_ | with_reducible refine below_drewN ?_ _ | with_reducible refine bset ?_ ?_ _ | with_reducible exact Nat.le_refl _ | with_reducible refine bsize ?_ | (dsimp only; refine Nat.le_trans ?_ (Nat.le_add_right _ _)) | with_reducible refine Nat.le_trans ?_ (Nat.le_add_right _ _) | (with_reducible refine bstep ?_ (by assumption))))

namespace fnExactCanCross
set_option maxRecDepth 100000 in
theorem lifted (os : Os) (started : os.Started) (H : Type) (enc : TypeId × Value → H) :
    ReturnsInHanded {} Try.checked os 15 .any (Rows.fnExactCanCrossSpec.pre6 enc Try.prog Try.f15 Rows.fnExactCanCrossRow.domain false) (Rows.fnExactCanCrossSpec.post enc Try.prog Try.f15 false true false false) := by
  refine returnsInHanded_of_change (C := Try.checked) own started (by kernel_rfl) Try.func15
    (ChangeSpec.witness6 (enc := enc) (C := Try.checked) false ⟨#[], #[.agg #[.int .i64 0, .int .i64 0], .agg #[.int .i64 0, .int .i64 0]], []⟩ 8 (by kernel_rfl) (by kernel_rfl) (by kernel_rfl) (by kernel_rfl)) ?_
  intro W base args ds gs before hval0 hW hcnd _
  have hval : ∀ (j : Nat) t v, Try.f15.params[j]? = some t → args[j]? = some v → Value.okWide Try.prog W .any base t v := hval0
  have hW' := hW
  obtain ⟨p, q, hA0, hV, rfl, hfz, hnd⟩ := hW
  have hA : DataW.TrodAll enc Try.prog W 0 (fun _ => true) true Try.f15.params.toList args.toList ds p := hA0
  rw [Try.params15] at hA hval
  obtain ⟨v0, vs0, d0, ds0, p0, q0, hargs, rfl, rfl, h0, r0⟩ := trodAll_cons hA
  obtain ⟨v1, vs1, d1, ds1, p1, q1, rfl, rfl, rfl, h1, r1⟩ := trodAll_cons r0
  obtain ⟨rfl, rfl, rfl⟩ := trodAll_nil r1
  obtain rfl : args = #[v0, v1] := by cases args; simp_all
  obtain ⟨rfl, rfl⟩ := trodVars_none hV
  have k0 := h0
  have lt0 : ∀ x ∈ p0, x.block < W.heap.size := by obtain ⟨m, hm⟩ := k0; exact DataW.trod_lt m _ _ _ hm
  have k1 := h1
  have lt1 : ∀ x ∈ p1, x.block < W.heap.size := by obtain ⟨m, hm⟩ := k1; exact DataW.trod_lt m _ _ _ hm
  obtain ⟨n0, m0, rfl, bn0, bm0⟩ := open_amt (hval 0 33 v0 rfl rfl) h0
  obtain ⟨n1, m1, rfl, bn1, bm1⟩ := open_amt (hval 1 33 v1 rfl rfl) h1
  clear hA0 hval0
  refine (outC_walk n0 m0 bn0 bm0 n1 m1 bn1 bm1 W).mono fun e W1 ⟨he, bel⟩ => ?_
  subst he
  exact ⟨_, rfl, _, _, _, [], _, [], hW', trodAll_mk1 (shut_bool Try.underlying4 _), (trodAll_cons_mk (Below.trod laidOut (by kernel_rfl) (of_decide_eq_true (by kernel_rfl)) k0 bel lt0) (trodAll_cons_mk (Below.trod laidOut (by kernel_rfl) (of_decide_eq_true (by kernel_rfl)) k1 bel lt1) trodAll_mk0)), rfl, bel.frame _, fun h => by cases h⟩
theorem over : Rows.fnExactCanCrossRow.holds Try.pinned (OpenSpec.ofChange Rows.fnExactCanCrossSpec) :=
  OpenClaim.holds_of_wide 15 Try.f15 rfl rfl rfl rfl rfl rfl rfl ⟨rfl, rfl, rfl, rfl, rfl⟩ rfl rfl rfl rfl rfl (by kernel_rfl) Try.func15 (by kernel_rfl)
    (of_decide_eq_true (by kernel_rfl)) (by unfold Func.isWrapper; first | (rw [if_pos (by decide +kernel)]; kernel_rfl) | (rw [if_neg (by decide +kernel)]; exact ⟨rfl, rfl⟩))
    (fun os started H enc _ => lifted os started H enc)
theorem proved : Rows.FnExactCanCrossSaid := over
end fnExactCanCross
end Go.Proofs.Ytifmijpipeekfaa
