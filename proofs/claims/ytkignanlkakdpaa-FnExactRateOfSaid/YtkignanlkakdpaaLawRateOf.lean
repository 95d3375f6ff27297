/- The law FnExactRateOf, for every camel and goods (also what is none): the program answers as the model. No condition. -/
import Derived.Test.YtkignanlkakdpaaCamB
import Derived.Test.YtkignanlkakdpaaCamT
import Derived.Deep.RegionHeld3
import Derived.Deep.DeepCutAuto
namespace Go.Proofs.Ytkignanlkakdpaa
open Go.ChangeShapes Go.WideShapes Go.ChangeAt Go.RowKit Go.Joins
set_option maxRecDepth 100000
set_option linter.unusedVariables false
set_option linter.unusedSimpArgs false

set_option maxHeartbeats 1600000 in
theorem rateOf_walk (L E : Int) (bL : -9223372036854775808 ≤ L ∧ L ≤ 9223372036854775807) (bE : -9223372036854775808 ≤ E ∧ E ≤ 9223372036854775807) (n d : Int) (bn : -9223372036854775808 ≤ n ∧ n ≤ 9223372036854775807) (bd : -9223372036854775808 ≤ d ∧ d ≤ 9223372036854775807) (w : World) :
    Calls Try.prog 5 #[.agg #[.int .i64 L, .int .i64 E], .agg #[.int .i64 n, .int .i64 d]] w fun e w' => e = .returned (.bool true) ∧ Below w.heap.size w w' := by
  go_enter Try.func5, Try.ntmps5
  go_upto_region 1 with fail
  change Code.wp _ _ _ _ (((w.alloc (.cells #[.int .i64 L, .int .i64 E] 23)).alloc (.cells #[.int .i64 n, .int .i64 d] 29)))
  have c1 : (((w.alloc (.cells #[.int .i64 L, .int .i64 E] 23)).alloc (.cells #[.int .i64 n, .int .i64 d] 29))).cell? ⟨w.heap.size, 0, none⟩ = some (.int .i64 L) := by simp
  have c2 : (((w.alloc (.cells #[.int .i64 L, .int .i64 E] 23)).alloc (.cells #[.int .i64 n, .int .i64 d] 29))).cell? ⟨w.heap.size, 1, none⟩ = some (.int .i64 E) := by simp
  have c3 : (((w.alloc (.cells #[.int .i64 L, .int .i64 E] 23)).alloc (.cells #[.int .i64 n, .int .i64 d] 29))).cell? ⟨w.heap.size + 1, 0, none⟩ = some (.int .i64 n) := by simp
  have c4 : (((w.alloc (.cells #[.int .i64 L, .int .i64 E] 23)).alloc (.cells #[.int .i64 n, .int .i64 d] 29))).cell? ⟨w.heap.size + 1, 1, none⟩ = some (.int .i64 d) := by simp
  have hs : w.heap.size + 1 < (((w.alloc (.cells #[.int .i64 L, .int .i64 E] 23)).alloc (.cells #[.int .i64 n, .int .i64 d] 29))).heap.size := by simp
  have hbw : Below w.heap.size w (((w.alloc (.cells #[.int .i64 L, .int .i64 E] 23)).alloc (.cells #[.int .i64 n, .int .i64 d] 29))) := by (repeat (first | with_reducible exact Below.refl _ _ | with_reducible assumption | with_reducible refine balloc ?_ _ | with_reducible refine bdrew ?_ | with_reducible refine below_drewN ?_ _ | with_reducible refine bset ?_ ?_ _ | with_reducible exact Nat.le_refl _ | with_reducible refine bsize ?_ | (dsimp only; refine Nat.le_trans ?_ (Nat.le_add_right _ _)) | with_reducible refine Nat.le_trans ?_ (Nat.le_add_right _ _) | (with_reducible refine bstep ?_ (by assumption))))
  generalize (((w.alloc (.cells #[.int .i64 L, .int .i64 E] 23)).alloc (.cells #[.int .i64 n, .int .i64 d] 29))) = V at *
  have a0 : w.heap.size < V.heap.size := by omega
  have a1 : w.heap.size + 1 < V.heap.size := by omega
  go_cut [5, 6] (fun s5 s6 wx => s5 = .int .i64 (rtX L E n d) ∧ s6 = .bool (askB L E n d) ∧ Below V.heap.size V wx)
  case first =>
    have av0 : ∀ k, w.heap.size < V.heap.size + k := fun k => by omega
    have av1 : ∀ k, w.heap.size + 1 < V.heap.size + k := fun k => by omega
    go_region_held3 (fun w' => w'.cell? ⟨w.heap.size, 0, none⟩ = some (.int .i64 L) ∧ w'.cell? ⟨w.heap.size, 1, none⟩ = some (.int .i64 E) ∧ w'.cell? ⟨w.heap.size + 1, 0, none⟩ = some (.int .i64 n) ∧ w'.cell? ⟨w.heap.size + 1, 1, none⟩ = some (.int .i64 d)) (((repeat' apply And.intro) <;> first | (simp [go_sem, c1, c2, c3, c4, av0, av1, a0, a1]; done) | (simp [go_sem, e0, e1, s1, s2, s3, s4]; done) | go_keep)) (first | (go_at_call 22; refine (toAmt_is _ _ _).mono ?_; rintro e w1 ⟨rfl, rfl⟩) | (go_at_call 19; refine (toCam_is _ _ _).mono ?_; rintro e w1 ⟨rfl, rfl⟩) | (go_at_call 24; refine (rt_spec L E n d bn bd _).mono ?_; rintro e w3 ⟨rfl, hb3⟩; obtain ⟨kc3, kf3, kz3, ky3, kx3, kv3, ku3⟩ := bcell hb3; (have e0 := kz3 (w.heap.size) (by first | (simp; done) | (simp; omega))); (have e1 := kz3 (w.heap.size + 1) (by first | (simp; done) | (simp; omega))); go_split_ands; (have s1 := (kc3 (w.heap.size) 0 (by first | (simp; done) | (simp; omega))).trans (by assumption)); (have s2 := (kc3 (w.heap.size) 1 (by first | (simp; done) | (simp; omega))).trans (by assumption)); (have s3 := (kc3 (w.heap.size + 1) 0 (by first | (simp; done) | (simp; omega))).trans (by assumption)); (have s4 := (kc3 (w.heap.size + 1) 1 (by first | (simp; done) | (simp; omega))).trans (by assumption))))
    all_goals (go_wp2_with fail; go_meet)
    all_goals refine ⟨rfl, rfl, ?_⟩
    all_goals (first | ((repeat (first | with_reducible exact Below.refl _ _ | with_reducible assumption | with_reducible refine balloc ?_ _ | with_reducible refine bdrew ?_ | with_reducible refine below_drewN ?_ _ | with_reducible refine bset ?_ ?_ _ | with_reducible exact Nat.le_refl _ | with_reducible refine bsize ?_ | (dsimp only; refine Nat.le_trans ?_ (Nat.le_add_right _ _)) | with_reducible refine Nat.le_trans ?_ (Nat.le_add_right _ _) | (with_reducible refine bstep ?_ (by assumption)))); done) | (simp; omega))
  case rest =>
    obtain ⟨rfl, rfl, hgb⟩ := hcut
    replace c1 := keepa hgb a0 c1
    replace c2 := keepa hgb a0 c2
    replace c3 := keepa hgb a1 c3
    replace c4 := keepa hgb a1 c4
    have hbw2 := bstep hbw hgb
    have hsz := hgb.size
    replace a0 : w.heap.size < wc.heap.size := by omega
    replace a1 : w.heap.size + 1 < wc.heap.size := by omega
    clear hgb hbw hs hsz
    go_upto_region 2 with fail
    go_cut [7, 8] (fun s5 s6 wx => s5 = .int .i64 (rtX L E n d) ∧ s6 = .bool (askB L E n d) ∧ Below wc.heap.size wc wx)
    case first =>
      have av0 : ∀ k, w.heap.size < wc.heap.size + k := fun k => by omega
      have av1 : ∀ k, w.heap.size + 1 < wc.heap.size + k := fun k => by omega
      go_region_held3 (fun w' => w'.cell? ⟨w.heap.size, 0, none⟩ = some (.int .i64 L) ∧ w'.cell? ⟨w.heap.size, 1, none⟩ = some (.int .i64 E) ∧ w'.cell? ⟨w.heap.size + 1, 0, none⟩ = some (.int .i64 n) ∧ w'.cell? ⟨w.heap.size + 1, 1, none⟩ = some (.int .i64 d)) (((repeat' apply And.intro) <;> first | (simp [go_sem, c1, c2, c3, c4, av0, av1, a0, a1]; done) | (simp [go_sem, e0, e1, s1, s2, s3, s4]; done) | go_keep)) (first | (go_at_call 22; refine (toAmt_is _ _ _).mono ?_; rintro e w1 ⟨rfl, rfl⟩) | (go_at_call 19; refine (toCam_is _ _ _).mono ?_; rintro e w1 ⟨rfl, rfl⟩) | (go_at_call 25; refine (rt_impl L E n d bn bd _).mono ?_; rintro e w3 ⟨rfl, hb3⟩; obtain ⟨kc3, kf3, kz3, ky3, kx3, kv3, ku3⟩ := bcell hb3; (have e0 := kz3 (w.heap.size) (by first | (simp; done) | (simp; omega))); (have e1 := kz3 (w.heap.size + 1) (by first | (simp; done) | (simp; omega))); go_split_ands; (have s1 := (kc3 (w.heap.size) 0 (by first | (simp; done) | (simp; omega))).trans (by assumption)); (have s2 := (kc3 (w.heap.size) 1 (by first | (simp; done) | (simp; omega))).trans (by assumption)); (have s3 := (kc3 (w.heap.size + 1) 0 (by first | (simp; done) | (simp; omega))).trans (by assumption)); (have s4 := (kc3 (w.heap.size + 1) 1 (by first | (simp; done) | (simp; omega))).trans (by assumption))))
      all_goals (go_wp2_with fail; go_meet)
      all_goals refine ⟨rfl, rfl, ?_⟩
      all_goals (first | ((repeat (first | with_reducible exact Below.refl _ _ | with_reducible assumption | with_reducible refine balloc ?_ _ | with_reducible refine bdrew ?_ | with_reducible refine below_drewN ?_ _ | with_reducible refine bset ?_ ?_ _ | with_reducible exact Nat.le_refl _ | with_reducible refine bsize ?_ | (dsimp only; refine Nat.le_trans ?_ (Nat.le_add_right _ _)) | with_reducible refine Nat.le_trans ?_ (Nat.le_add_right _ _) | (with_reducible refine bstep ?_ (by assumption)))); done) | (simp; omega))
    case rest =>
      obtain ⟨rfl, rfl, hhb⟩ := hcut
      have hbw := bstep hbw2 hhb
      clear hhb
      go_wp2
      go_ret
      refine ⟨rfl, ?_⟩
      (repeat (first | with_reducible exact Below.refl _ _ | with_reducible assumption | with_reducible refine balloc ?_ _ | with_reducible refine bdrew ?_ | with_reducible refine below_drewN ?_ _ | with_reducible refine bset ?_ ?_ _ | with_reducible exact Nat.le_refl _ | with_reducible refine bsize ?_ | (dsimp only; refine Nat.le_trans ?_ (Nat.le_add_right _ _)) | with_reducible refine Nat.le_trans ?_ (Nat.le_add_right _ _) | (with_reducible refine bstep ?_ (by assumption))))

namespace fnExactRateOf
set_option maxRecDepth 100000 in
theorem lifted (os : Os) (started : os.Started) (H : Type) (enc : TypeId × Value → H) :
    ReturnsInHanded {} Try.checked os 5 .any (Rows.fnExactRateOfSpec.pre6 enc Try.prog Try.f5 Rows.fnExactRateOfRow.domain false) (Rows.fnExactRateOfSpec.post enc Try.prog Try.f5 false true false false) := by
  refine returnsInHanded_of_change (C := Try.checked) own started (by kernel_rfl) Try.func5
    (ChangeSpec.witness6 (enc := enc) (C := Try.checked) false ⟨#[], #[.agg #[.int .i64 0, .int .i64 0], .agg #[.int .i64 0, .int .i64 0]], []⟩ 8 (by kernel_rfl) (by kernel_rfl) (by kernel_rfl) (by kernel_rfl)) ?_
  intro W base args ds gs before hval0 hW hcnd _
  have hval : ∀ (j : Nat) t v, Try.f5.params[j]? = some t → args[j]? = some v → Value.okWide Try.prog W .any base t v := hval0
  have hW' := hW
  obtain ⟨p, q, hA0, hV, rfl, hfz, hnd⟩ := hW
  have hA : DataW.TrodAll enc Try.prog W 0 (fun _ => true) true Try.f5.params.toList args.toList ds p := hA0
  rw [Try.params5] at hA hval
  obtain ⟨v0, vs0, d0, ds0, p0, q0, hargs, rfl, rfl, h0, r0⟩ := trodAll_cons hA
  obtain ⟨v1, vs1, d1, ds1, p1, q1, rfl, rfl, rfl, h1, r1⟩ := trodAll_cons r0
  obtain ⟨rfl, rfl, rfl⟩ := trodAll_nil r1
  obtain rfl : args = #[v0, v1] := by cases args; simp_all
  obtain ⟨rfl, rfl⟩ := trodVars_none hV
  have k0 := h0
  have lt0 : ∀ x ∈ p0, x.block < W.heap.size := by obtain ⟨m, hm⟩ := k0; exact DataW.trod_lt m _ _ _ hm
  have k1 := h1
  have lt1 : ∀ x ∈ p1, x.block < W.heap.size := by obtain ⟨m, hm⟩ := k1; exact DataW.trod_lt m _ _ _ hm
  obtain ⟨n0, m0, rfl, bn0, bm0⟩ := open_cam (hval 0 23 v0 rfl rfl) h0
  obtain ⟨n1, m1, rfl, bn1, bm1⟩ := open_amt (hval 1 29 v1 rfl rfl) h1
  clear hA0 hval0
  refine (rateOf_walk n0 m0 bn0 bm0 n1 m1 bn1 bm1 W).mono fun e W1 ⟨he, bel⟩ => ?_
  subst he
  exact ⟨_, rfl, _, _, _, [], _, [], hW', trodAll_mk1 (shut_bool Try.underlying4 _), (trodAll_cons_mk (Below.trod laidOut (by kernel_rfl) (of_decide_eq_true (by kernel_rfl)) k0 bel lt0) (trodAll_cons_mk (Below.trod laidOut (by kernel_rfl) (of_decide_eq_true (by kernel_rfl)) k1 bel lt1) trodAll_mk0)), rfl, bel.frame _, fun h => by cases h⟩
theorem over : Rows.fnExactRateOfRow.holds Try.pinned (OpenSpec.ofChange Rows.fnExactRateOfSpec) :=
  OpenClaim.holds_of_wide 5 Try.f5 rfl rfl rfl rfl rfl rfl rfl ⟨rfl, rfl, rfl, rfl, rfl⟩ rfl rfl rfl rfl rfl (by kernel_rfl) Try.func5 (by kernel_rfl)
    (of_decide_eq_true (by kernel_rfl)) (by unfold Func.isWrapper; first | (rw [if_pos (by decide +kernel)]; kernel_rfl) | (rw [if_neg (by decide +kernel)]; exact ⟨rfl, rfl⟩))
    (fun os started H enc _ => lifted os started H enc)
theorem proved : Rows.FnExactRateOfSaid := over
end fnExactRateOf
end Go.Proofs.Ytkignanlkakdpaa
