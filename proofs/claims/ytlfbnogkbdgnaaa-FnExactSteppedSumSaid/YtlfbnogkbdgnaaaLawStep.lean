/- The law FnExactSteppedSum, for every two amounts (also what is none) and every number: the program answers as the model. No condition. -/
import Derived.Test.YtlfbnogkbdgnaaaStepI
import Derived.Test.YtlfbnogkbdgnaaaStepS2
import Derived.Test.YtlfbnogkbdgnaaaStepS3
import Derived.Test.YtlfbnogkbdgnaaaStepS4
import Derived.Test.YtlfbnogkbdgnaaaStepS5
namespace Go.Proofs.Ytlfbnogkbdgnaaa
open Go.ChangeShapes Go.WideShapes Go.ChangeAt Go.RowKit Go.Joins
set_option linter.unusedVariables false
set_option linter.unusedSimpArgs false


theorem step_spec (n d p q k : Int) (w : World) :
    Calls Try.prog 54 #[.agg #[.int .i64 n, .int .i64 d], .agg #[.int .i64 p, .int .i64 q], .int .i64 k] w fun e w' => e = .returned (.tuple #[.agg #[.int .i64 (twoN (stK n d p q k) (stN n d p q k) (stD n d p q k)), .int .i64 (twoD (stK n d p q k) (stN n d p q k) (stD n d p q k))], .bool (twoB (stK n d p q k) (stN n d p q k) (stD n d p q k))]) ∧ Below w.heap.size w w' := by
  have hzero : stK n d p q k = false → (fun (e : Ending) w' => e = .returned (.tuple #[.agg #[.int .i64 (twoN (stK n d p q k) (stN n d p q k) (stD n d p q k)), .int .i64 (twoD (stK n d p q k) (stN n d p q k) (stD n d p q k))], .bool (twoB (stK n d p q k) (stN n d p q k) (stD n d p q k))]) ∧ Below w.heap.size w w') = fun e w' => e = .returned (.tuple #[.agg #[.int .i64 (0), .int .i64 (0)], .bool (false)]) ∧ Below w.heap.size w w' := by
    intro h; obtain ⟨e1, e2, e3⟩ := two_no (stN n d p q k) (stD n d p q k); rw [h, e1, e2, e3]
  cases hk : okk n d p q
  · rw [hzero (by unfold stK; cases ha : amB n d <;> cases hb : amB p q <;> simp [okk, ha, hb] at hk ⊢)]; exact step_spec_0 n d p q k hk w
  · cases hin : inB k 0 1000
    · rw [hzero (by simp [stK, hin])]; exact step_spec_1 n d p q k hk hin w
    · have hb : 0 ≤ k ∧ k ≤ 1000 := by simpa [inB] using hin
      cases hB1 : lowB (n * k) d <;> cases hB2 : lowB (p * (k * (k - 1) / 2)) q
      · rw [hzero (by simp [stK, hB1])]; exact step_spec_2 n d p q k hk hb.1 hb.2 hB1 hB2 w
      · rw [hzero (by simp [stK, hB1])]; exact step_spec_3 n d p q k hk hb.1 hb.2 hB1 hB2 w
      · rw [hzero (by simp [stK, hB2])]; exact step_spec_4 n d p q k hk hb.1 hb.2 hB1 hB2 w
      · have hk' := hk
        unfold okk at hk'
        rw [Bool.and_eq_true] at hk'
        obtain ⟨e1, e2, e3⟩ := two_yes (stN n d p q k) (stD n d p q k)
        have hs : stK n d p q k = true := by simp [stK, hin, hB1, hB2, hk'.1, hk'.2]
        rw [hs, e1, e2, e3]
        exact step_spec_5 n d p q k hk hb.1 hb.2 hB1 hB2 w

set_option maxHeartbeats 1600000 in
theorem step_walk (n d : Int) (bn : -9223372036854775808 ≤ n ∧ n ≤ 9223372036854775807) (bd : -9223372036854775808 ≤ d ∧ d ≤ 9223372036854775807) (p q : Int) (bp : -9223372036854775808 ≤ p ∧ p ≤ 9223372036854775807) (bq : -9223372036854775808 ≤ q ∧ q ≤ 9223372036854775807) (k : Int) (bk : -9223372036854775808 ≤ k ∧ k ≤ 9223372036854775807) (w : World) :
    Calls Try.prog 17 #[.agg #[.int .i64 n, .int .i64 d], .agg #[.int .i64 p, .int .i64 q], .int .i64 k] w fun e w' => e = .returned (.bool true) ∧ Below w.heap.size w w' := by
  go_enter Try.func17, Try.ntmps17
  go_upto_region 1 with fail
  go_cut [7, 8] (Res2 (twoN (stK n d p q k) (stN n d p q k) (stD n d p q k)) (twoD (stK n d p q k) (stN n d p q k) (stD n d p q k)) (twoB (stK n d p q k) (stN n d p q k) (stD n d p q k)) (boxed w n d p q))
  case first =>
    have hV := boxed_is w n d p q
    change Code.wp _ _ _ _ (boxed w n d p q)
    generalize boxed w n d p q = V at *
    obtain ⟨c1, c2, c3, c4, hs, hbw⟩ := hV
    have a0 : w.heap.size < V.heap.size := by omega
    have b0 := hs
    have av : ∀ k, w.heap.size < V.heap.size + k := fun k => by omega
    have bv : ∀ k, w.heap.size + 1 < V.heap.size + k := fun k => by omega
    go_region_held3 (fun w' => w'.cell? ⟨w.heap.size, 0, none⟩ = some (.int .i64 n) ∧ w'.cell? ⟨w.heap.size, 1, none⟩ = some (.int .i64 d) ∧ w'.cell? ⟨w.heap.size + 1, 0, none⟩ = some (.int .i64 p) ∧ w'.cell? ⟨w.heap.size + 1, 1, none⟩ = some (.int .i64 q)) (((repeat' apply And.intro) <;> first | (simp [go_sem, c1, c2, c3, c4, av, bv, a0, b0]; done) | (simp [go_sem, e1, e2, s1, s2, s3, s4]; done) | go_keep)) (first | (go_at_call 19; refine (toAmt_is _ _ _).mono ?_; rintro e w1 ⟨rfl, rfl⟩) | (go_at_call 54; refine (step_spec _ _ _ _ _ _).mono ?_; rintro e w3 ⟨rfl, hb3⟩; obtain ⟨kc3, kf3, kz3, ky3, kx3, kv3, ku3⟩ := bcell hb3; (have e1 := kz3 w.heap.size (by first | (simp; done) | (simp; omega))); (have e2 := kz3 (w.heap.size + 1) (by first | (simp; done) | (simp; omega))); go_split_ands; (have s1 := (kc3 w.heap.size 0 (by first | (simp; done) | (simp; omega))).trans (by assumption)); (have s2 := (kc3 w.heap.size 1 (by first | (simp; done) | (simp; omega))).trans (by assumption)); (have s3 := (kc3 (w.heap.size + 1) 0 (by first | (simp; done) | (simp; omega))).trans (by assumption)); (have s4 := (kc3 (w.heap.size + 1) 1 (by first | (simp; done) | (simp; omega))).trans (by assumption))))
    all_goals (go_wp2_with fail; go_meet)
    all_goals refine ⟨_, rfl, rfl, ?_, ?_, ?_, ?_⟩
    all_goals first | ((repeat (first | exact Below.refl _ _ | assumption | refine balloc ?_ _ | refine bdrew ?_ | refine bset ?_ ?_ _ | exact Nat.le_refl _ | refine bsize ?_ | (dsimp only; refine Nat.le_trans ?_ (Nat.le_add_right _ _)) | refine Nat.le_trans ?_ (Nat.le_add_right _ _) | (refine bstep ?_ (by assumption)))); done) | (simp [go_sem, kc3, kz3, ky3]; done) | (simp; omega)
  case rest =>
    obtain ⟨g, rfl, rfl, hg0, hg1, hgs, hgb⟩ := hcut
    have hV := boxed_later (boxed_is w n d p q) hgb
    generalize boxed w n d p q = V0 at *
    generalize wc = V at *
    go_upto_region 2 with fail
    go_cut [9, 10] (Res2 (twoN (stK n d p q k) (stN n d p q k) (stD n d p q k)) (twoD (stK n d p q k) (stN n d p q k) (stD n d p q k)) (twoB (stK n d p q k) (stN n d p q k) (stD n d p q k)) V)
    case first =>
      clear hg0 hg1 hgs hgb
      obtain ⟨c1, c2, c3, c4, hs, hbw⟩ := hV
      have a0 : w.heap.size < V.heap.size := by omega
      have b0 := hs
      have av : ∀ k, w.heap.size < V.heap.size + k := fun k => by omega
      have bv : ∀ k, w.heap.size + 1 < V.heap.size + k := fun k => by omega
      go_region_held3 (fun w' => w'.cell? ⟨w.heap.size, 0, none⟩ = some (.int .i64 n) ∧ w'.cell? ⟨w.heap.size, 1, none⟩ = some (.int .i64 d) ∧ w'.cell? ⟨w.heap.size + 1, 0, none⟩ = some (.int .i64 p) ∧ w'.cell? ⟨w.heap.size + 1, 1, none⟩ = some (.int .i64 q)) (((repeat' apply And.intro) <;> first | (simp [go_sem, c1, c2, c3, c4, av, bv, a0, b0]; done) | (simp [go_sem, e1, e2, s1, s2, s3, s4]; done) | go_keep)) (first | (go_at_call 19; refine (toAmt_is _ _ _).mono ?_; rintro e w1 ⟨rfl, rfl⟩) | (go_at_call 55; refine (step_impl _ _ bn bd _ _ bp bq _ _).mono ?_; rintro e w3 ⟨rfl, hb3⟩; obtain ⟨kc3, kf3, kz3, ky3, kx3, kv3, ku3⟩ := bcell hb3; (have e1 := kz3 w.heap.size (by first | (simp; done) | (simp; omega))); (have e2 := kz3 (w.heap.size + 1) (by first | (simp; done) | (simp; omega))); go_split_ands; (have s1 := (kc3 w.heap.size 0 (by first | (simp; done) | (simp; omega))).trans (by assumption)); (have s2 := (kc3 w.heap.size 1 (by first | (simp; done) | (simp; omega))).trans (by assumption)); (have s3 := (kc3 (w.heap.size + 1) 0 (by first | (simp; done) | (simp; omega))).trans (by assumption)); (have s4 := (kc3 (w.heap.size + 1) 1 (by first | (simp; done) | (simp; omega))).trans (by assumption))))
      all_goals (go_wp2_with fail; go_meet)
      all_goals refine ⟨_, rfl, rfl, ?_, ?_, ?_, ?_⟩
      all_goals first | ((repeat (first | exact Below.refl _ _ | assumption | refine balloc ?_ _ | refine bdrew ?_ | refine bset ?_ ?_ _ | exact Nat.le_refl _ | refine bsize ?_ | (dsimp only; refine Nat.le_trans ?_ (Nat.le_add_right _ _)) | refine Nat.le_trans ?_ (Nat.le_add_right _ _) | (refine bstep ?_ (by assumption)))); done) | (simp [go_sem, kc3, kz3, ky3]; done) | (simp; omega)
    case rest =>
      obtain ⟨g2, rfl, rfl, hh0, hh1, hhs, hhb⟩ := hcut
      have hg0' := keepa hhb hgs hg0
      have hg1' := keepa hhb hgs hg1
      have hbw := bstep hV.below hhb
      clear hg0 hg1 hgs hgb hV hhb
      (go_wp2_with fail; refine (eq_same _ _ _).mono ?_; rintro e w9 ⟨rfl, hb9⟩; have ha9 := hb9; obtain ⟨kc9, kf9, kz9, ky9, kx9, kv9, ku9⟩ := bcell hb9)
      go_wp2
      go_ret
      refine ⟨rfl, ?_⟩
      (repeat (first | exact Below.refl _ _ | assumption | refine balloc ?_ _ | refine bdrew ?_ | refine bset ?_ ?_ _ | exact Nat.le_refl _ | refine bsize ?_ | (dsimp only; refine Nat.le_trans ?_ (Nat.le_add_right _ _)) | refine Nat.le_trans ?_ (Nat.le_add_right _ _) | (refine bstep ?_ (by assumption))))

namespace fnExactSteppedSum
set_option maxRecDepth 100000 in
theorem lifted (os : Os) (started : os.Started) (H : Type) (enc : TypeId × Value → H) :
    ReturnsInHanded {} Try.checked os 17 .any (Rows.fnExactSteppedSumSpec.pre6 enc Try.prog Try.f17 Rows.fnExactSteppedSumRow.domain false) (Rows.fnExactSteppedSumSpec.post enc Try.prog Try.f17 false true false false) := by
  refine returnsInHanded_of_change (C := Try.checked) own started (by kernel_rfl) Try.func17
    (ChangeSpec.witness6 (enc := enc) (C := Try.checked) false ⟨#[], #[.agg #[.int .i64 0, .int .i64 0], .agg #[.int .i64 0, .int .i64 0], .int .i64 0], []⟩ 8 (by kernel_rfl) (by kernel_rfl) (by kernel_rfl) (by kernel_rfl)) ?_
  intro W base args ds gs before hval0 hW hcnd _
  have hval : ∀ (j : Nat) t v, Try.f17.params[j]? = some t → args[j]? = some v → Value.okWide Try.prog W .any base t v := hval0
  have hW' := hW
  obtain ⟨p, q, hA0, hV, rfl, hfz, hnd⟩ := hW
  have hA : DataW.TrodAll enc Try.prog W 0 (fun _ => true) true Try.f17.params.toList args.toList ds p := hA0
  rw [Try.params17] at hA hval
  obtain ⟨v0, vs0, d0, ds0, p0, q0, hargs, rfl, rfl, h0, r0⟩ := trodAll_cons hA
  obtain ⟨v1, vs1, d1, ds1, p1, q1, rfl, rfl, rfl, h1, r1⟩ := trodAll_cons r0
  obtain ⟨v2, vs2, d2, ds2, p2, q2, rfl, rfl, rfl, h2, r2⟩ := trodAll_cons r1
  obtain ⟨rfl, rfl, rfl⟩ := trodAll_nil r2
  obtain rfl : args = #[v0, v1, v2] := by cases args; simp_all
  obtain ⟨rfl, rfl⟩ := trodVars_none hV
  have k0 := h0
  have lt0 : ∀ x ∈ p0, x.block < W.heap.size := by obtain ⟨m, hm⟩ := k0; exact DataW.trod_lt m _ _ _ hm
  have k1 := h1
  have lt1 : ∀ x ∈ p1, x.block < W.heap.size := by obtain ⟨m, hm⟩ := k1; exact DataW.trod_lt m _ _ _ hm
  have k2 := h2
  have lt2 : ∀ x ∈ p2, x.block < W.heap.size := by obtain ⟨m, hm⟩ := k2; exact DataW.trod_lt m _ _ _ hm
  obtain ⟨n0, m0, rfl, bn0, bm0⟩ := open_amt (hval 0 23 v0 rfl rfl) h0
  obtain ⟨n1, m1, rfl, bn1, bm1⟩ := open_amt (hval 1 23 v1 rfl rfl) h1
  obtain ⟨x2, rfl, rfl, rfl, wx2⟩ := open_int Try.underlying3 (hval 2 3 v2 rfl rfl) h2
  clear hA0 hval0
  refine (step_walk n0 m0 bn0 bm0 n1 m1 bn1 bm1 x2 (int_bounds wx2) W).mono fun e W1 ⟨he, bel⟩ => ?_
  subst he
  exact ⟨_, rfl, _, _, _, [], _, [], hW', trodAll_mk1 (shut_bool Try.underlying4 _), (trodAll_cons_mk (Below.trod laidOut (by kernel_rfl) (of_decide_eq_true (by kernel_rfl)) k0 bel lt0) (trodAll_cons_mk (Below.trod laidOut (by kernel_rfl) (of_decide_eq_true (by kernel_rfl)) k1 bel lt1) (trodAll_cons_mk (Below.trod laidOut (by kernel_rfl) (of_decide_eq_true (by kernel_rfl)) k2 bel lt2) trodAll_mk0))), rfl, bel.frame _, fun h => by cases h⟩
theorem over : Rows.fnExactSteppedSumRow.holds Try.pinned (OpenSpec.ofChange Rows.fnExactSteppedSumSpec) :=
  OpenClaim.holds_of_wide 17 Try.f17 rfl rfl rfl rfl rfl rfl rfl ⟨rfl, rfl, rfl, rfl, rfl⟩ rfl rfl rfl rfl rfl (by kernel_rfl) Try.func17 (by kernel_rfl)
    (of_decide_eq_true (by kernel_rfl)) (by unfold Func.isWrapper; first | (rw [if_pos (by decide +kernel)]; kernel_rfl) | (rw [if_neg (by decide +kernel)]; exact ⟨rfl, rfl⟩))
    (fun os started H enc _ => lifted os started H enc)
theorem proved : Rows.FnExactSteppedSumSaid := over
end fnExactSteppedSum

end Go.Proofs.Ytlfbnogkbdgnaaa
