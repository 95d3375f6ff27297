/- The law FnExactSumAmounts, for every list of amounts (nil, too; of whatever length, also with what is none): the program answers as the model, and the list stays as it was. No condition. -/
import Derived.Test.YtifmijpipeekfaaSumT
import Derived.Test.YtifmijpipeekfaaQAmount
import Derived.Test.YtifmijpipeekfaaJeep
namespace Go.Proofs.Ytifmijpipeekfaa
open Go.ChangeShapes Go.WideShapes Go.ChangeAt Go.RowKit Go.Joins
set_option maxRecDepth 100000
set_option linter.unusedVariables false
set_option linter.unusedSimpArgs false

def suN (l : List (Int × Int)) : Int := if l.length ≤ 50 then oN (sumL l 0 1) else 0
def suD (l : List (Int × Int)) : Int := if l.length ≤ 50 then oD (sumL l 0 1) else 0
def suB (l : List (Int × Int)) : Bool := if l.length ≤ 50 then oB (sumL l 0 1) else false
theorem trod_amtP {H : Type} {enc : TypeId × Value → H} {W : World} {base fuel : Nat} {spare : Nat → Bool} {held : Bool} {cs : List Value} {x : DataW H × List MemPlace} (h : DataW.trod enc Try.prog W base spare held fuel 33 cs = some x) :
    ∃ p : Int × Int, cs = (fAmt p).map (Value.int .i64) ∧ ∀ y ∈ fAmt p, -9223372036854775808 ≤ y ∧ y ≤ 9223372036854775807 := by
  obtain ⟨p, q, rfl, hp, hq⟩ := trod_amt h
  exact ⟨(p, q), rfl, by simp [fAmt]; exact ⟨hp, hq⟩⟩
theorem sum_spec_many (a : Option Addr) (n cap : Nat) (w : World) (h : 50 < n) (hn : n ≤ 1048576) :
    Calls Try.prog 19 #[.slice a n cap] w fun e w' => e = .returned (.tuple #[.agg #[.int .i64 0, .int .i64 0], .bool false]) ∧ Below w.heap.size w w' := by
  go_enter Try.func19, Try.ntmps19
  go_wp2
  refine bodyPost_ret (v := .tuple #[.agg #[.int .i64 0, .int .i64 0], .bool false]) (by simp only [results, Try.results19]; go_simp) rfl ⟨rfl, ?_⟩
  (repeat (first | with_reducible exact Below.refl _ _ | with_reducible assumption | with_reducible refine balloc ?_ _ | with_reducible refine bdrew ?_ | with_reducible refine below_drewN ?_ _ | with_reducible refine bset ?_ ?_ _ | with_reducible exact Nat.le_refl _ | with_reducible refine bsize ?_ | (dsimp only; refine Nat.le_trans ?_ (Nat.le_add_right _ _)) | with_reducible refine Nat.le_trans ?_ (Nat.le_add_right _ _) | (with_reducible refine bstep ?_ (by assumption))))
theorem sum_impl_many (a : Option Addr) (n cap : Nat) (w : World) (h : 50 < n) (hn : n ≤ 1048576) :
    Calls Try.prog 21 #[.slice a n cap] w fun e w' => e = .returned (.tuple #[.agg #[.int .i64 0, .int .i64 0], .bool false]) ∧ Below w.heap.size w w' := by
  go_enter Try.func21, Try.ntmps21
  go_wp2
  refine bodyPost_ret (v := .tuple #[.agg #[.int .i64 0, .int .i64 0], .bool false]) (by simp only [results, Try.results21]; go_simp) rfl ⟨rfl, ?_⟩
  (repeat (first | with_reducible exact Below.refl _ _ | with_reducible assumption | with_reducible refine balloc ?_ _ | with_reducible refine bdrew ?_ | with_reducible refine below_drewN ?_ _ | with_reducible refine bset ?_ ?_ _ | with_reducible exact Nat.le_refl _ | with_reducible refine bsize ?_ | (dsimp only; refine Nat.le_trans ?_ (Nat.le_add_right _ _)) | with_reducible refine Nat.le_trans ?_ (Nat.le_add_right _ _) | (with_reducible refine bstep ?_ (by assumption))))
theorem sum_spec_all (g : Nat) (l : List (Int × Int)) (base : Nat) (w : World) (hn : l.length ≤ 1048576) (hbd : ∀ p ∈ l, ∀ y ∈ fAmt p, -9223372036854775808 ≤ y ∧ y ≤ 9223372036854775807)
    (h : w.ownsRow base 25 2 (.slice (some ⟨g, 0, none⟩) l.length l.length) l.length (cellsG fAmt l)) :
    Calls Try.prog 19 #[.slice (some ⟨g, 0, none⟩) l.length l.length] w fun e w' => e = .returned (.tuple #[.agg #[.int .i64 (suN l), .int .i64 (suD l)], .bool (suB l)]) ∧ Below w.heap.size w w' := by
  have hL := liesG_own fAmt_len h hbd
  unfold suN suD suB
  by_cases h50 : l.length ≤ 50
  · rw [if_pos h50, if_pos h50, if_pos h50]
    refine sum_spec g 0 l.length l w (own_lt h rfl) (Nat.le_refl _) (by omega) (fun i p hp => ?_) (fun p hp => ⟨hbd p hp p.1 (by simp [fAmt]), hbd p hp p.2 (by simp [fAmt])⟩) h50
    have c0 := hL.hcell i p hp 0 p.1 rfl
    have c1 := hL.hcell i p hp 1 p.2 rfl
    rw [Addr.add_lit] at c0 c1
    exact ⟨c0, c1⟩
  · rw [if_neg h50, if_neg h50, if_neg h50]
    exact sum_spec_many _ _ _ _ (by omega) hn
theorem sum_impl_all (g : Nat) (l : List (Int × Int)) (base : Nat) (w : World) (hn : l.length ≤ 1048576) (hbd : ∀ p ∈ l, ∀ y ∈ fAmt p, -9223372036854775808 ≤ y ∧ y ≤ 9223372036854775807)
    (h : w.ownsRow base 25 2 (.slice (some ⟨g, 0, none⟩) l.length l.length) l.length (cellsG fAmt l)) :
    Calls Try.prog 21 #[.slice (some ⟨g, 0, none⟩) l.length l.length] w fun e w' => e = .returned (.tuple #[.agg #[.int .i64 (suN l), .int .i64 (suD l)], .bool (suB l)]) ∧ Below w.heap.size w w' := by
  unfold suN suD suB
  by_cases h50 : l.length ≤ 50
  · rw [if_pos h50, if_pos h50, if_pos h50]
    exact sum_row _ l w (Or.inr ⟨_, _, rfl, liesG_own fAmt_len h hbd⟩) h50
  · rw [if_neg h50, if_neg h50, if_neg h50]
    exact sum_impl_many _ _ _ _ (by omega) hn

set_option maxHeartbeats 1600000 in
/-- The law over whatever slice is copied as l in this world and in all later ones. -/
theorem su_walk_of (a : Option Addr) (cap : Nat) (l : List (Int × Int)) (w : World) (hn : l.length ≤ 1048576)
    (hbd : ∀ p ∈ l, ∀ y ∈ fAmt p, -9223372036854775808 ≤ y ∧ y ≤ 9223372036854775807)
    (hcopy : ∀ W, Below w.heap.size w W → Calls Try.prog 20 #[.slice a l.length cap] W (EndCopyG 25 2 fAmt l W)) :
    Calls Try.prog 3 #[.slice a l.length cap] w fun e w' => e = .returned (.bool true) ∧ Below w.heap.size w w' := by
  have hpos : ¬ (1048576 - (l.length : Int) < 0) := by omega
  have hsz := sz_amts a l.length cap
  have hn2 : l.length ≤ 9223372036854775807 := by omega
  go_enter Try.func3, Try.ntmps3
  go_wp2_with fail; refine (hsz _ hn2).mono ?_; rintro e w1 ⟨rfl, hb1⟩
  rw [if_pos hn]
  clear hsz
  go_wp2_with fail; refine (hcopy _ hb1).mono ?_; rintro e w2 ⟨g2, rfl, hown2, hb2⟩
  have hA2 := bstep hb1 hb2
  go_wp2_with fail; refine (sum_spec_all _ _ _ _ hn hbd hown2).mono ?_; rintro e w3 ⟨rfl, hb3⟩
  have hA3 := bstep hA2 hb3
  clear hown2 hb1 hb2 hb3 hA2
  go_wp2_with fail; refine (hcopy _ (by (repeat (first | with_reducible exact Below.refl _ _ | with_reducible assumption | with_reducible refine balloc ?_ _ | with_reducible refine bdrew ?_ | with_reducible refine below_drewN ?_ _ | with_reducible refine bset ?_ ?_ _ | with_reducible exact Nat.le_refl _ | with_reducible refine bsize ?_ | (dsimp only; refine Nat.le_trans ?_ (Nat.le_add_right _ _)) | with_reducible refine Nat.le_trans ?_ (Nat.le_add_right _ _) | (with_reducible refine bstep ?_ (by assumption)))))).mono ?_; rintro e w4 ⟨g4, rfl, hown4, hb4⟩
  obtain ⟨kc4, kf4, kz4, ky4, kx4, kv4, ku4⟩ := bcell hb4
  have q0 : w4.cell? ⟨w3.heap.size, 0, none⟩ = some (.int .i64 (suN l)) := (kc4 _ _ (by simp)).trans (by simp [go_sem])
  have q1 : w4.cell? ⟨w3.heap.size, 1, none⟩ = some (.int .i64 (suD l)) := (kc4 _ _ (by simp)).trans (by simp [go_sem])
  have s4 : w3.heap.size < w4.heap.size := kz4 _ (by simp)
  have hA4 : Below w.heap.size w w4 := by (repeat (first | with_reducible exact Below.refl _ _ | with_reducible assumption | with_reducible refine balloc ?_ _ | with_reducible refine bdrew ?_ | with_reducible refine below_drewN ?_ _ | with_reducible refine bset ?_ ?_ _ | with_reducible exact Nat.le_refl _ | with_reducible refine bsize ?_ | (dsimp only; refine Nat.le_trans ?_ (Nat.le_add_right _ _)) | with_reducible refine Nat.le_trans ?_ (Nat.le_add_right _ _) | (with_reducible refine bstep ?_ (by assumption))))
  clear kc4 kf4 kz4 ky4 kx4 kv4 ku4 hb4 hA3
  go_wp2_with fail; refine (sum_impl_all _ _ _ _ hn hbd hown4).mono ?_; rintro e w5 ⟨rfl, hb5⟩
  have hA5 := bstep hA4 hb5
  have hown5 := ownsRow_below hown4 hb5
  replace q0 := keepa hb5 s4 q0
  replace q1 := keepa hb5 s4 q1
  have z5 := hb5.size
  have s5 : w3.heap.size < w5.heap.size := by omega
  clear hown4 hb5 hA4 s4 z5
  go_wp2_with fail; refine (eq_same _ _ _).mono ?_; rintro e w6 ⟨rfl, hb6⟩
  have hA6 : Below w.heap.size w w6 := by (repeat (first | with_reducible exact Below.refl _ _ | with_reducible assumption | with_reducible refine balloc ?_ _ | with_reducible refine bdrew ?_ | with_reducible refine below_drewN ?_ _ | with_reducible refine bset ?_ ?_ _ | with_reducible exact Nat.le_refl _ | with_reducible refine bsize ?_ | (dsimp only; refine Nat.le_trans ?_ (Nat.le_add_right _ _)) | with_reducible refine Nat.le_trans ?_ (Nat.le_add_right _ _) | (with_reducible refine bstep ?_ (by assumption))))
  have hown6 := ownsRow_below (hown5.alloc _) hb6
  clear hown5 hb6 hA5 q0 q1 s5
  go_wp2_with fail; refine (hcopy _ hA6).mono ?_; rintro e w7 ⟨g7, rfl, hown7, hb7⟩
  have hA7 := bstep hA6 hb7
  have hown7' := ownsRow_below hown6 hb7
  clear hown6 hb7 hA6
  go_wp2_with fail; refine (eq_amts _ _ _ _ _ _ _ _ hn hown7' hown7).mono ?_; rintro e w8 ⟨rfl, hb8⟩
  have hA8 := bstep hA7 hb8
  clear hown7 hown7' hA7
  go_wp2
  go_ret
  exact ⟨rfl, hA8⟩

theorem su_walk_long (a : Option Addr) (n cap : Nat) (w : World) (hn : 1048576 < n) (hn2 : n ≤ 9223372036854775807) :
    Calls Try.prog 3 #[.slice a n cap] w fun e w' => e = .returned (.bool true) ∧ Below w.heap.size w w' := by
  have hsz := sz_amts a n cap
  go_enter Try.func3, Try.ntmps3
  go_wp2_with fail; refine (hsz _ hn2).mono ?_; rintro e w1 ⟨rfl, hb1⟩
  rw [if_neg (by omega)]
  go_wp2
  go_ret
  exact ⟨rfl, hb1⟩

/-- The law at every list. -/
theorem su_walk (v : Value) (w0 : World) (h : AnyG 2 fAmt w0 v) (w : World) (e : w0 = w := by rfl) :
    Calls Try.prog 3 #[v] w fun e w' => e = .returned (.bool true) ∧ Below w.heap.size w w' := by
  subst e
  rcases h with rfl | ⟨a, cap, l, rfl, hL⟩
  · exact su_walk_of none 0 [] w0 (by simp) (by simp) (fun W _ => to_amts_nil W)
  · by_cases hn : l.length ≤ 1048576
    · exact su_walk_of (some a) cap l w0 hn hL.hbd (fun W hb => to_amts_some a cap l W (liesG_below hL hb) hn)
    · exact su_walk_long _ _ _ _ (by omega) (by have := hL.hlc; have := hL.hcap; omega)

namespace fnExactSumAmounts
set_option maxRecDepth 100000 in
theorem lifted (os : Os) (started : os.Started) (H : Type) (enc : TypeId × Value → H) :
    ReturnsInHanded {} Try.checked os 3 .any (Rows.fnExactSumAmountsSpec.pre6 enc Try.prog Try.f3 Rows.fnExactSumAmountsRow.domain false) (Rows.fnExactSumAmountsSpec.post enc Try.prog Try.f3 false true false false) := by
  refine returnsInHanded_of_change (C := Try.checked) own started (by kernel_rfl) Try.func3
    (ChangeSpec.witness6 (enc := enc) (C := Try.checked) false ⟨#[], #[.slice none 0 0], []⟩ 8 (by kernel_rfl) (by kernel_rfl) (by kernel_rfl) (by kernel_rfl)) ?_
  intro W base args ds gs before hval0 hW hcnd _
  have hval : ∀ (j : Nat) t v, Try.f3.params[j]? = some t → args[j]? = some v → Value.okWide Try.prog W .any base t v := hval0
  have hW' := hW
  obtain ⟨p, q, hA0, hV, rfl, hfz, hnd⟩ := hW
  have hA : DataW.TrodAll enc Try.prog W 0 (fun _ => true) true Try.f3.params.toList args.toList ds p := hA0
  rw [Try.params3] at hA hval
  obtain ⟨v0, vs0, d0, ds0, p0, q0, hargs, rfl, rfl, h0, r0⟩ := trodAll_cons hA
  obtain ⟨rfl, rfl, rfl⟩ := trodAll_nil r0
  obtain rfl : args = #[v0] := by cases args; simp_all
  obtain ⟨rfl, rfl⟩ := trodVars_none hV
  have k0 := h0
  have lt0 : ∀ x ∈ p0, x.block < W.heap.size := by obtain ⟨m, hm⟩ := k0; exact DataW.trod_lt m _ _ _ hm
  have z0 := open_listG (α := Int × Int) fAmt_len Try.underlying22 cellsAmt (fun n cs x h => trod_amtP h) (hval 0 22 v0 rfl rfl) h0
  clear hA0 hval0
  refine (su_walk v0 W z0 W).mono fun e W1 ⟨he, bel⟩ => ?_
  subst he
  exact ⟨_, rfl, _, _, _, [], _, [], hW', trodAll_mk1 (shut_bool Try.underlying4 _), (trodAll_cons_mk (Below.trod laidOut (by kernel_rfl) (of_decide_eq_true (by kernel_rfl)) k0 bel lt0) trodAll_mk0), rfl, bel.frame _, fun h => by cases h⟩
theorem over : Rows.fnExactSumAmountsRow.holds Try.pinned (OpenSpec.ofChange Rows.fnExactSumAmountsSpec) :=
  OpenClaim.holds_of_wide 3 Try.f3 rfl rfl rfl rfl rfl rfl rfl ⟨rfl, rfl, rfl, rfl, rfl⟩ rfl rfl rfl rfl rfl (by kernel_rfl) Try.func3 (by kernel_rfl)
    (of_decide_eq_true (by kernel_rfl)) (by unfold Func.isWrapper; first | (rw [if_pos (by decide +kernel)]; kernel_rfl) | (rw [if_neg (by decide +kernel)]; exact ⟨rfl, rfl⟩))
    (fun os started H enc _ => lifted os started H enc)
theorem proved : Rows.FnExactSumAmountsSaid := over
end fnExactSumAmounts
end Go.Proofs.Ytifmijpipeekfaa
