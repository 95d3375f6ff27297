/- The law FnExactDrivenBy, for every list of steps (nil, too; of whatever length, also with what is none): the program answers as the model, and the list stays as it was. No condition. -/
import Derived.Test.YtkpeiibncbcdhaaDrivenS
import Derived.Test.YtkpeiibncbcdhaaQStep
namespace Go.Proofs.Ytkpeiibncbcdhaa
open Go.ChangeShapes Go.WideShapes Go.ChangeAt Go.RowKit Go.Joins
set_option maxRecDepth 100000
set_option linter.unusedVariables false
set_option linter.unusedSimpArgs false

set_option maxHeartbeats 1600000 in
/-- The law over whatever slice is copied as l in this world and in all later ones. -/
theorem dr_walk_of (a : Option Addr) (cap : Nat) (l : List StepV) (w : World) (hn : l.length ≤ 1048576)
    (hbd : ∀ p ∈ l, ∀ y ∈ fStep p, -9223372036854775808 ≤ y ∧ y ≤ 9223372036854775807)
    (hcopy : ∀ W, Below w.heap.size w W → Calls Try.prog 33 #[.slice a l.length cap] W (EndCopyG 29 3 fStep l W)) :
    Calls Try.prog 11 #[.slice a l.length cap] w fun e w' => e = .returned (.bool true) ∧ Below w.heap.size w w' := by
  have hpos : ¬ (1048576 - (l.length : Int) < 0) := by omega
  have hsz := sz_steps a l.length cap
  have hn2 : l.length ≤ 9223372036854775807 := by omega
  go_enter Try.func11, Try.ntmps11
  go_wp2_with fail; refine (hsz _ hn2).mono ?_; rintro e w1 ⟨rfl, hb1⟩
  rw [if_pos hn]
  clear hsz
  go_wp2_with fail; refine (hcopy _ hb1).mono ?_; rintro e w2 ⟨g2, rfl, hown2, hb2⟩
  have hA2 := bstep hb1 hb2
  go_wp2_with fail; refine (driven_spec _ _ _ _ (liesG_own fStep_len hown2 hbd)).mono ?_; rintro e w3 ⟨rfl, hb3⟩
  have hA3 := bstep hA2 hb3
  clear hown2 hb1 hb2 hb3 hA2
  go_wp2_with fail; refine (hcopy _ (by (repeat (first | with_reducible exact Below.refl _ _ | with_reducible assumption | with_reducible refine balloc ?_ _ | with_reducible refine bdrew ?_ | with_reducible refine bset ?_ ?_ _ | with_reducible exact Nat.le_refl _ | with_reducible refine bsize ?_ | (dsimp only; refine Nat.le_trans ?_ (Nat.le_add_right _ _)) | with_reducible refine Nat.le_trans ?_ (Nat.le_add_right _ _) | (with_reducible refine bstep ?_ (by assumption)))))).mono ?_; rintro e w4 ⟨g4, rfl, hown4, hb4⟩
  obtain ⟨kc4, kf4, kz4, ky4, kx4, kv4, ku4⟩ := bcell hb4
  have q0 : w4.cell? ⟨w3.heap.size, 0, none⟩ = some (.int .i64 (oN (drO l))) := (kc4 _ _ (by simp)).trans (by simp [go_sem])
  have q1 : w4.cell? ⟨w3.heap.size, 1, none⟩ = some (.int .i64 (oD (drO l))) := (kc4 _ _ (by simp)).trans (by simp [go_sem])
  have s4 : w3.heap.size < w4.heap.size := kz4 _ (by simp)
  have hA4 : Below w.heap.size w w4 := by (repeat (first | with_reducible exact Below.refl _ _ | with_reducible assumption | with_reducible refine balloc ?_ _ | with_reducible refine bdrew ?_ | with_reducible refine bset ?_ ?_ _ | with_reducible exact Nat.le_refl _ | with_reducible refine bsize ?_ | (dsimp only; refine Nat.le_trans ?_ (Nat.le_add_right _ _)) | with_reducible refine Nat.le_trans ?_ (Nat.le_add_right _ _) | (with_reducible refine bstep ?_ (by assumption))))
  clear kc4 kf4 kz4 ky4 kx4 kv4 ku4 hb4 hA3
  go_wp2_with fail; refine (driven_impl _ _ _ _ (liesG_own fStep_len hown4 hbd)).mono ?_; rintro e w5 ⟨rfl, hb5⟩
  have hA5 := bstep hA4 hb5
  have hown5 := ownsRow_below hown4 hb5
  replace q0 := keepa hb5 s4 q0
  replace q1 := keepa hb5 s4 q1
  have z5 := hb5.size
  have s5 : w3.heap.size < w5.heap.size := by omega
  clear hown4 hb5 hA4 s4 z5
  go_wp2_with fail; refine (eq_same _ _ _).mono ?_; rintro e w6 ⟨rfl, hb6⟩
  have hA6 : Below w.heap.size w w6 := by (repeat (first | with_reducible exact Below.refl _ _ | with_reducible assumption | with_reducible refine balloc ?_ _ | with_reducible refine bdrew ?_ | with_reducible refine bset ?_ ?_ _ | with_reducible exact Nat.le_refl _ | with_reducible refine bsize ?_ | (dsimp only; refine Nat.le_trans ?_ (Nat.le_add_right _ _)) | with_reducible refine Nat.le_trans ?_ (Nat.le_add_right _ _) | (with_reducible refine bstep ?_ (by assumption))))
  have hown6 := ownsRow_below (hown5.alloc _) hb6
  clear hown5 hb6 hA5 q0 q1 s5
  go_wp2_with fail; refine (hcopy _ hA6).mono ?_; rintro e w7 ⟨g7, rfl, hown7, hb7⟩
  have hA7 := bstep hA6 hb7
  have hown7' := ownsRow_below hown6 hb7
  clear hown6 hb7 hA6
  go_wp2_with fail; refine (eq_steps _ _ _ _ _ _ _ _ hn hown7' hown7).mono ?_; rintro e w8 ⟨rfl, hb8⟩
  have hA8 := bstep hA7 hb8
  clear hown7 hown7' hA7
  go_wp2
  go_ret
  exact ⟨rfl, hA8⟩

theorem dr_walk_long (a : Option Addr) (n cap : Nat) (w : World) (hn : 1048576 < n) (hn2 : n ≤ 9223372036854775807) :
    Calls Try.prog 11 #[.slice a n cap] w fun e w' => e = .returned (.bool true) ∧ Below w.heap.size w w' := by
  have hsz := sz_steps a n cap
  go_enter Try.func11, Try.ntmps11
  go_wp2_with fail; refine (hsz _ hn2).mono ?_; rintro e w1 ⟨rfl, hb1⟩
  rw [if_neg (by omega)]
  go_wp2
  go_ret
  exact ⟨rfl, hb1⟩

/-- The law at every list. -/
theorem dr_walk (v : Value) (w0 : World) (h : AnyG 3 fStep w0 v) (w : World) (e : w0 = w := by rfl) :
    Calls Try.prog 11 #[v] w fun e w' => e = .returned (.bool true) ∧ Below w.heap.size w w' := by
  subst e
  rcases h with rfl | ⟨a, cap, l, rfl, hL⟩
  · exact dr_walk_of none 0 [] w0 (by simp) (by simp) (fun W _ => to_steps_nil W)
  · by_cases hn : l.length ≤ 1048576
    · exact dr_walk_of (some a) cap l w0 hn hL.hbd (fun W hb => to_steps_some a cap l W (liesG_below hL hb) hn)
    · exact dr_walk_long _ _ _ _ (by omega) (by have := hL.hlc; have := hL.hcap; omega)

namespace fnExactDrivenBy
set_option maxRecDepth 100000 in
theorem lifted (os : Os) (started : os.Started) (H : Type) (enc : TypeId × Value → H) :
    ReturnsInHanded {} Try.checked os 11 .any (Rows.fnExactDrivenBySpec.pre6 enc Try.prog Try.f11 Rows.fnExactDrivenByRow.domain false) (Rows.fnExactDrivenBySpec.post enc Try.prog Try.f11 false true false false) := by
  refine returnsInHanded_of_change (C := Try.checked) own started (by kernel_rfl) Try.func11
    (ChangeSpec.witness6 (enc := enc) (C := Try.checked) false ⟨#[], #[.slice none 0 0], []⟩ 8 (by kernel_rfl) (by kernel_rfl) (by kernel_rfl) (by kernel_rfl)) ?_
  intro W base args ds gs before hval0 hW hcnd _
  have hval : ∀ (j : Nat) t v, Try.f11.params[j]? = some t → args[j]? = some v → Value.okWide Try.prog W .any base t v := hval0
  have hW' := hW
  obtain ⟨p, q, hA0, hV, rfl, hfz, hnd⟩ := hW
  have hA : DataW.TrodAll enc Try.prog W 0 (fun _ => true) true Try.f11.params.toList args.toList ds p := hA0
  rw [Try.params11] at hA hval
  obtain ⟨v0, vs0, d0, ds0, p0, q0, hargs, rfl, rfl, h0, r0⟩ := trodAll_cons hA
  obtain ⟨rfl, rfl, rfl⟩ := trodAll_nil r0
  obtain rfl : args = #[v0] := by cases args; simp_all
  obtain ⟨rfl, rfl⟩ := trodVars_none hV
  have k0 := h0
  have lt0 : ∀ x ∈ p0, x.block < W.heap.size := by obtain ⟨m, hm⟩ := k0; exact DataW.trod_lt m _ _ _ hm
  have z0 := open_listG (α := StepV) fStep_len Try.underlying50 cellsStep (fun n cs x h => trod_step h) (hval 0 50 v0 rfl rfl) h0
  clear hA0 hval0
  refine (dr_walk v0 W z0 W).mono fun e W1 ⟨he, bel⟩ => ?_
  subst he
  exact ⟨_, rfl, _, _, _, [], _, [], hW', trodAll_mk1 (shut_bool Try.underlying4 _), (trodAll_cons_mk (Below.trod laidOut (by kernel_rfl) (of_decide_eq_true (by kernel_rfl)) k0 bel lt0) trodAll_mk0), rfl, bel.frame _, fun h => by cases h⟩
theorem over : Rows.fnExactDrivenByRow.holds Try.pinned (OpenSpec.ofChange Rows.fnExactDrivenBySpec) :=
  OpenClaim.holds_of_wide 11 Try.f11 rfl rfl rfl rfl rfl rfl rfl ⟨rfl, rfl, rfl, rfl, rfl⟩ rfl rfl rfl rfl rfl (by kernel_rfl) Try.func11 (by kernel_rfl)
    (of_decide_eq_true (by kernel_rfl)) (by unfold Func.isWrapper; first | (rw [if_pos (by decide +kernel)]; kernel_rfl) | (rw [if_neg (by decide +kernel)]; exact ⟨rfl, rfl⟩))
    (fun os started H enc _ => lifted os started H enc)
theorem proved : Rows.FnExactDrivenBySaid := over
end fnExactDrivenBy
end Go.Proofs.Ytkpeiibncbcdhaa
