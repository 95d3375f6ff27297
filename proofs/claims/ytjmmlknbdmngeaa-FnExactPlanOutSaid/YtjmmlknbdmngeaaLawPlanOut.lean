/- The law FnExactPlanOut, for every int: the program answers as the model, and its answer owns its memory. No condition. -/
import Derived.Test.YtjmmlknbdmngeaaLawBase
import Derived.Test.YtjmmlknbdmngeaaAns
import Derived.Test.YtjmmlknbdmngeaaOStep
import Derived.Test.YtjmmlknbdmngeaaQStep
import Derived.Test.YtjmmlknbdmngeaaPlanE
import Derived.Test.YtjmmlknbdmngeaaPlanG
namespace Go.Proofs.Ytjmmlknbdmngeaa
open Go.ChangeShapes Go.WideShapes Go.ChangeAt Go.RowKit Go.Joins
set_option maxRecDepth 100000
set_option linter.unusedVariables false
set_option linter.unusedSimpArgs false

set_option maxHeartbeats 1600000 in
theorem planOut_law_nil (t : Int) (b : Bool) (hs : ∀ W, Calls Try.prog 47 #[.int .i64 t] W (EndN b W)) (hi : ∀ W, Calls Try.prog 48 #[.int .i64 t] W (EndN b W)) (w : World) :
    Calls Try.prog 13 #[.int .i64 t] w fun e w' => e = .returned (.bool true) ∧ Below w.heap.size w w' := by
  have HS := Lib.hid hs
  have HI := Lib.hid hi
  clear hs hi
  go_enter Try.func13, Try.ntmps13
  go_wp2_with fail; refine (HS.out _).mono ?_; rintro e w2 ⟨a2, c2, rfl, hA2⟩
  go_wp2_with fail; refine (HI.out _).mono ?_; rintro e w4 ⟨a4, c4, rfl, hb4⟩
  have hA4 := bstep hA2 hb4
  go_wp2_with fail; refine (eq_steps_nil _ _ _ _ _).mono ?_; rintro e w5 ⟨rfl, hb5⟩
  have hA5 := bstep hA4 hb5
  go_wp2_with fail; refine (mark_steps_nil _ _ _ _).mono ?_; rintro e w6 ⟨rfl, hb6⟩
  have hA6 := bstep hA5 hb6
  go_wp2_with fail; refine (held_steps_nil _ _ _ _).mono ?_; rintro e w7 ⟨rfl, hb7⟩
  have hA7 := bstep hA6 hb7
  go_wp2_with fail; refine (HI.out _).mono ?_; rintro e w9 ⟨a9, c9, rfl, hb9⟩
  have hA9 := bstep hA7 hb9
  go_wp2_with fail; refine (eq_steps_nil _ _ _ _ _).mono ?_; rintro e w10 ⟨rfl, hb10⟩
  have hA10 := bstep hA9 hb10
  go_wp2_with fail; refine (held_steps_nil _ _ _ _).mono ?_; rintro e w11 ⟨rfl, hb11⟩
  have hA11 := bstep hA10 hb11
  go_wp2
  go_ret
  exact ⟨rfl, hA11⟩

set_option maxHeartbeats 1600000 in
theorem planOut_law_some (t : Int) (b : Bool) (l : List StepV) (hl : l.length ≤ 1000) (hs : ∀ W, Calls Try.prog 47 #[.int .i64 t] W (EndG 49 3 fStep l b W)) (hi : ∀ W, Calls Try.prog 48 #[.int .i64 t] W (EndG 49 3 fStep l b W)) (w : World) :
    Calls Try.prog 13 #[.int .i64 t] w fun e w' => e = .returned (.bool true) ∧ Below w.heap.size w w' := by
  have hl2 : l.length ≤ 1048576 := by omega
  have hl3 : l.length ≤ 1048576 := by omega
  have HS := Lib.hid hs
  have HI := Lib.hid hi
  clear hs hi
  go_enter Try.func13, Try.ntmps13
  go_wp2_with fail; refine (HS.out _).mono ?_; rintro e w2 ⟨g2, c2, rfl, hown2, hA2⟩
  go_wp2_with fail; refine (HI.out _).mono ?_; rintro e w4 ⟨g4, c4, rfl, hown4, hb4⟩
  have hA4 := bstep hA2 hb4
  have s2 : g2 < w2.heap.size := own_lt hown2 rfl
  have l4 : w2.heap.size ≤ g4 := own_block hown4 rfl
  have l4w : w.heap.size ≤ g4 := Nat.le_trans hA2.size l4
  have n42 : g4 ≠ g2 := by omega
  replace hown2 := ownsRow_below hown2 hb4
  clear hb4 hA2 s2 l4
  go_wp2_with fail; refine (eq_steps _ _ _ _ _ _ _ _ hl2 hown4 hown2).mono ?_; rintro e w5 ⟨rfl, hb5⟩
  have hA5 := bstep hA4 hb5
  replace hown2 := ownsRow_below hown2 hb5
  replace hown4 := ownsRow_below hown4 hb5
  clear hb5 hA4
  go_wp2_with fail; refine (mark_steps_some _ _ _ _ 1 _ _ hl3 (by omega) (by omega) hown4).mono ?_; rintro e w6 ⟨rfl, hgr, ys, hown6, hall⟩
  have hA6 : Below w.heap.size w w6 := hA5.grown hgr hA5.size (fun k e => by cases e; exact l4w)
  replace hown2 := hown2.kept hgr (Or.inr (fun e => n42 (Option.some.inj e).symm))
  have HY := Lib.hid hall
  clear hgr hall hown4 hA5
  have hneg : ¬ (1 + 3 * (l.length : Int) < 0) := by omega
  go_wp2_with fail; refine (held_steps_some _ _ _ _ 1 _ _ hl3 (by omega) (by omega) hown6 HY.out).mono ?_; rintro e w7 ⟨rfl, hb7⟩
  have hA7 := bstep hA6 hb7
  replace hown2 := ownsRow_below hown2 hb7
  replace hown6 := ownsRow_below hown6 hb7
  clear hb7 hA6
  go_wp2_with fail; refine (HI.out _).mono ?_; rintro e w9 ⟨g9, c9, rfl, hown9, hb9⟩
  have hA9 := bstep hA7 hb9
  replace hown2 := ownsRow_below hown2 hb9
  replace hown6 := ownsRow_below hown6 hb9
  clear hb9 hA7
  go_wp2_with fail; refine (eq_steps _ _ _ _ _ _ _ _ hl2 hown9 hown2).mono ?_; rintro e w10 ⟨rfl, hb10⟩
  have hA10 := bstep hA9 hb10
  replace hown6 := ownsRow_below hown6 hb10
  clear hb10 hA9 hown2 hown9
  go_wp2_with fail; refine (held_steps_some _ _ _ _ 1 _ _ hl3 (by omega) (by omega) hown6 HY.out).mono ?_; rintro e w11 ⟨rfl, hb11⟩
  have hA11 := bstep hA10 hb11
  clear hown6 hb11 hA10
  go_wp2
  go_ret
  exact ⟨rfl, hA11⟩

theorem planOut_walk (t : Int) (bt : -9223372036854775808 ≤ t ∧ t ≤ 9223372036854775807) (w : World) :
    Calls Try.prog 13 #[.int .i64 t] w fun e w' => e = .returned (.bool true) ∧ Below w.heap.size w w' := by
  by_cases h : poL t = []
  · exact planOut_law_nil t (inB t 1 4) (fun W => (planOut_spec t bt W).mono fun e w' hp => ans_nil h hp) (fun W => (planOut_impl t bt W).mono fun e w' hp => ans_nil h hp) w
  · exact planOut_law_some t (inB t 1 4) _ (planOut_len t) (fun W => (planOut_spec t bt W).mono fun e w' hp => ans_some h hp) (fun W => (planOut_impl t bt W).mono fun e w' hp => ans_some h hp) w
namespace fnExactPlanOut
set_option maxRecDepth 100000 in
theorem lifted (os : Os) (started : os.Started) (H : Type) (enc : TypeId × Value → H) :
    ReturnsInHanded {} Try.checked os 13 .any (Rows.fnExactPlanOutSpec.pre6 enc Try.prog Try.f13 Rows.fnExactPlanOutRow.domain false) (Rows.fnExactPlanOutSpec.post enc Try.prog Try.f13 false true false false) := by
  refine returnsInHanded_of_change (C := Try.checked) own started (by kernel_rfl) Try.func13
    (ChangeSpec.witness6 (enc := enc) (C := Try.checked) false ⟨#[], #[.int .i64 0], []⟩ 8 (by kernel_rfl) (by kernel_rfl) (by kernel_rfl) (by kernel_rfl)) ?_
  intro W base args ds gs before hval0 hW hcnd _
  have hval : ∀ (j : Nat) t v, Try.f13.params[j]? = some t → args[j]? = some v → Value.okWide Try.prog W .any base t v := hval0
  have hW' := hW
  obtain ⟨p, q, hA0, hV, rfl, hfz, hnd⟩ := hW
  have hA : DataW.TrodAll enc Try.prog W 0 (fun _ => true) true Try.f13.params.toList args.toList ds p := hA0
  rw [Try.params13] at hA hval
  obtain ⟨v0, vs0, d0, ds0, p0, q0, hargs, rfl, rfl, h0, r0⟩ := trodAll_cons hA
  obtain ⟨rfl, rfl, rfl⟩ := trodAll_nil r0
  obtain rfl : args = #[v0] := by cases args; simp_all
  obtain ⟨rfl, rfl⟩ := trodVars_none hV
  have k0 := h0
  have lt0 : ∀ x ∈ p0, x.block < W.heap.size := by obtain ⟨m, hm⟩ := k0; exact DataW.trod_lt m _ _ _ hm
  obtain ⟨x0, rfl, rfl, rfl, wx0⟩ := open_int Try.underlying3 (hval 0 3 v0 rfl rfl) h0
  clear hA0 hval0
  refine (planOut_walk x0 (int_bounds wx0) W).mono fun e W1 ⟨he, bel⟩ => ?_
  subst he
  exact ⟨_, rfl, _, _, _, [], _, [], hW', trodAll_mk1 (shut_bool Try.underlying4 _), (trodAll_cons_mk (Below.trod laidOut (by kernel_rfl) (of_decide_eq_true (by kernel_rfl)) k0 bel lt0) trodAll_mk0), rfl, bel.frame _, fun h => by cases h⟩
theorem over : Rows.fnExactPlanOutRow.holds Try.pinned (OpenSpec.ofChange Rows.fnExactPlanOutSpec) :=
  OpenClaim.holds_of_wide 13 Try.f13 rfl rfl rfl rfl rfl rfl rfl ⟨rfl, rfl, rfl, rfl, rfl⟩ rfl rfl rfl rfl rfl (by kernel_rfl) Try.func13 (by kernel_rfl)
    (of_decide_eq_true (by kernel_rfl)) (by unfold Func.isWrapper; first | (rw [if_pos (by decide +kernel)]; kernel_rfl) | (rw [if_neg (by decide +kernel)]; exact ⟨rfl, rfl⟩))
    (fun os started H enc _ => lifted os started H enc)
theorem proved : Rows.FnExactPlanOutSaid := over
end fnExactPlanOut
end Go.Proofs.Ytjmmlknbdmngeaa
