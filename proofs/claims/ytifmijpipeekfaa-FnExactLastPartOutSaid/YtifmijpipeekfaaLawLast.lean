/- The law FnExactLastPartOut, for every amount (also what is none): the program answers as the model. No condition. -/
import Derived.Test.YtifmijpipeekfaaLawBase
import Derived.Test.YtifmijpipeekfaaJeepS
import Derived.Test.YtifmijpipeekfaaReck4
import Derived.Deep.RegionWith
namespace Go.Proofs.Ytifmijpipeekfaa
open Go.ChangeShapes Go.WideShapes Go.ChangeAt Go.RowKit Go.Joins
set_option maxRecDepth 100000
set_option linter.unusedVariables false
set_option linter.unusedSimpArgs false

def lpN (n d : Int) : Int := n % d
def lpD (n d : Int) : Int := d * drv 1 (n / d).toNat
def lpB (n d : Int) : Bool := (tkB n d 10 && decide (d ≤ n)) && lowB (lpN n d) (lpD n d)
def lpX (n d : Int) : Int := if lpB n d = true then lowN (lpN n d) (lpD n d) else 0
def lpY (n d : Int) : Int := if lpB n d = true then lowD (lpN n d) (lpD n d) else 0
theorem lp_no (n d : Int) (h : (tkB n d 10 && decide (d ≤ n)) = false) : lpB n d = false ∧ lpX n d = 0 ∧ lpY n d = 0 := by
  have e : lpB n d = false := by unfold lpB; rw [h]; rfl
  exact ⟨e, by simp [lpX, e], by simp [lpY, e]⟩
theorem lp_yes (n d : Int) (h : (tkB n d 10 && decide (d ≤ n)) = true) : lpB n d = lowB (lpN n d) (lpD n d) ∧ lpX n d = lowN (lpN n d) (lpD n d) ∧ lpY n d = lowD (lpN n d) (lpD n d) := by
  have e : lpB n d = lowB (lpN n d) (lpD n d) := by unfold lpB; rw [h]; rfl
  refine ⟨e, ?_, ?_⟩
  · unfold lpX; rw [e]; split
    · rfl
    · rename_i hb; exact (lowN_no _ _ (by simpa using hb)).symm
  · unfold lpY; rw [e]; split
    · rfl
    · rename_i hb; exact (lowD_no _ _ (by simpa using hb)).symm

set_option maxHeartbeats 1600000 in
theorem last_spec (n d : Int) (w : World) :
    Calls Try.prog 49 #[.agg #[.int .i64 n, .int .i64 d]] w fun e w' => e = .returned (.tuple #[.agg #[.int .i64 (lpX n d), .int .i64 (lpY n d)], .bool (lpB n d)]) ∧ Below w.heap.size w w' := by
  cases hc : tkB n d 10 && decide (d ≤ n)
  · obtain ⟨hB, hX, hY⟩ := lp_no n d hc
    rw [hB, hX, hY]
    clear hB hX hY
    cases h : tkB n d 10
    · clear hc
      go_enter Try.func49, Try.ntmps49
      (go_wp2_with fail; refine (jeFuel_spec n d _).mono ?_; rintro e w1 ⟨rfl, hb1⟩; rw [h]; have ha1 := hb1; obtain ⟨kc1, kf1, kz1, ky1, kx1, kv1, ku1⟩ := bcell hb1)
      go_wp2
      refine bodyPost_ret (v := .tuple #[.agg #[.int .i64 0, .int .i64 0], .bool false]) (by simp only [results, Try.results49]; go_simp) rfl ⟨rfl, ?_⟩
      (repeat (first | with_reducible exact Below.refl _ _ | with_reducible assumption | with_reducible refine balloc ?_ _ | with_reducible refine bdrew ?_ | with_reducible refine below_drewN ?_ _ | with_reducible refine bset ?_ ?_ _ | with_reducible exact Nat.le_refl _ | with_reducible refine bsize ?_ | (dsimp only; refine Nat.le_trans ?_ (Nat.le_add_right _ _)) | with_reducible refine Nat.le_trans ?_ (Nat.le_add_right _ _) | (with_reducible refine bstep ?_ (by assumption))))
    · have hlt : n < d := by rw [h] at hc; simpa using hc
      clear hc
      go_enter Try.func49, Try.ntmps49
      (go_wp2_with fail; refine (jeFuel_spec n d _).mono ?_; rintro e w1 ⟨rfl, hb1⟩; rw [h]; have ha1 := hb1; obtain ⟨kc1, kf1, kz1, ky1, kx1, kv1, ku1⟩ := bcell hb1)
      go_wp2
      refine bodyPost_ret (v := .tuple #[.agg #[.int .i64 0, .int .i64 0], .bool false]) (by simp only [results, Try.results49]; go_simp) rfl ⟨rfl, ?_⟩
      (repeat (first | with_reducible exact Below.refl _ _ | with_reducible assumption | with_reducible refine balloc ?_ _ | with_reducible refine bdrew ?_ | with_reducible refine below_drewN ?_ _ | with_reducible refine bset ?_ ?_ _ | with_reducible exact Nat.le_refl _ | with_reducible refine bsize ?_ | (dsimp only; refine Nat.le_trans ?_ (Nat.le_add_right _ _)) | with_reducible refine Nat.le_trans ?_ (Nat.le_add_right _ _) | (with_reducible refine bstep ?_ (by assumption))))
  · obtain ⟨hB, hX, hY⟩ := lp_yes n d hc
    rw [hB, hX, hY]
    clear hB hX hY
    rw [Bool.and_eq_true, decide_eq_true_eq] at hc
    obtain ⟨h, hle⟩ := hc
    obtain ⟨h1, h10⟩ := tkB_yes n d 10 h
    obtain ⟨t, ht, e1, e2⟩ := tk_quot n d 10 10 rfl h
    obtain ⟨r0, r1, r2⟩ := rem_bd n d h1
    obtain ⟨a1, a2, a3, a4⟩ := am_of n d h1
    obtain ⟨v0, v1⟩ := drv_bd 1 t (Or.inl rfl) (by omega)
    obtain ⟨b1, b2, _, _, _, _, _, _⟩ := fa_bd 1 t 0 d (Or.inl rfl) (by omega) (by omega) (by omega) a3 a4
    unfold lpN lpD
    rw [e2]
    unfold drv at *
    have e3 : n % d = n % d := rfl
    generalize hr : n % d = r at *
    have hd0 : ¬ d = 0 := by omega
    clear h1 h10 e2 e3
    go_enter Try.func49, Try.ntmps49
    (go_wp2_with fail; refine (jeFuel_spec n d _).mono ?_; rintro e w1 ⟨rfl, hb1⟩; rw [h]; have ha1 := hb1; obtain ⟨kc1, kf1, kz1, ky1, kx1, kv1, ku1⟩ := bcell hb1)
    go_wp2
    have wq1 : IntKind.i64.wrap (d * (2 * (t : Int) + 1)) = d * (2 * (t : Int) + 1) := IntWalk.i64_in _ (by omega)
    have wq2 : Int.tmod n d = r := by rw [Int.tmod_eq_emod_of_nonneg a1]; exact hr
    have wq3 : IntKind.i64.wrap (2 * (t : Int)) = 2 * (t : Int) := IntWalk.i64_in _ (by omega)
    have wq4 : IntKind.i64.wrap (2 * (t : Int) + 1) = 2 * (t : Int) + 1 := IntWalk.i64_in _ (by omega)
    have hm := fun W => make_spec r (d * (2 * (t : Int) + 1)) r0 b1 (by omega) (by omega) W
    have HM := Lib.hid hm
    clear hm
    first | (go_region_with (go_at_call 81; refine (HM.out _).mono ?_; rintro e w2 ⟨rfl, hb2⟩; have ha2 := bjoin ha1 hb2 (by (repeat (first | with_reducible exact Below.refl _ _ | with_reducible assumption | with_reducible refine balloc ?_ _ | with_reducible refine bdrew ?_ | with_reducible refine below_drewN ?_ _ | with_reducible refine bset ?_ ?_ _ | with_reducible exact Nat.le_refl _ | with_reducible refine bsize ?_ | (dsimp only; refine Nat.le_trans ?_ (Nat.le_add_right _ _)) | with_reducible refine Nat.le_trans ?_ (Nat.le_add_right _ _) | (with_reducible refine bstep ?_ (by assumption))))); obtain ⟨kc2, kf2, kz2, ky2, kx2, kv2, ku2⟩ := bcell hb2; obtain ⟨jc2, jf2, jz2, jy2, jx2, jv2, ju2⟩ := bcell ha2)) | fail
    all_goals go_wp2
    all_goals refine bodyPost_ret (v := .tuple #[.agg #[.int .i64 (lowN r (d * (2 * (t : Int) + 1))), .int .i64 (lowD r (d * (2 * (t : Int) + 1)))], .bool (lowB r (d * (2 * (t : Int) + 1)))]) (by simp only [results, Try.results49]; go_simp) rfl ⟨rfl, ?_⟩
    all_goals (repeat (first | with_reducible exact Below.refl _ _ | with_reducible assumption | with_reducible refine balloc ?_ _ | with_reducible refine bdrew ?_ | with_reducible refine below_drewN ?_ _ | with_reducible refine bset ?_ ?_ _ | with_reducible exact Nat.le_refl _ | with_reducible refine bsize ?_ | (dsimp only; refine Nat.le_trans ?_ (Nat.le_add_right _ _)) | with_reducible refine Nat.le_trans ?_ (Nat.le_add_right _ _) | (with_reducible refine bstep ?_ (by assumption))))

set_option maxHeartbeats 1600000 in
theorem last_impl (n d : Int) (bn : -9223372036854775808 ≤ n ∧ n ≤ 9223372036854775807) (bd : -9223372036854775808 ≤ d ∧ d ≤ 9223372036854775807) (w : World) :
    Calls Try.prog 50 #[.agg #[.int .i64 n, .int .i64 d]] w fun e w' => e = .returned (.tuple #[.agg #[.int .i64 (lpX n d), .int .i64 (lpY n d)], .bool (lpB n d)]) ∧ Below w.heap.size w w' := by
  cases hc : tkB n d 10 && decide (d ≤ n)
  · obtain ⟨hB, hX, hY⟩ := lp_no n d hc
    rw [hB, hX, hY]
    clear hB hX hY
    cases h : tkB n d 10
    · clear hc
      go_enter Try.func50, Try.ntmps50
      (go_wp2_with fail; refine (tanks_no n d 10 bn bd (by omega) (by omega) h _).mono ?_; rintro e w1 ⟨rfl, hb1⟩; have ha1 := hb1; obtain ⟨kc1, kf1, kz1, ky1, kx1, kv1, ku1⟩ := bcell hb1)
      go_wp2
      refine bodyPost_ret (v := .tuple #[.agg #[.int .i64 0, .int .i64 0], .bool false]) (by simp only [results, Try.results50]; go_simp) rfl ⟨rfl, ?_⟩
      (repeat (first | with_reducible exact Below.refl _ _ | with_reducible assumption | with_reducible refine balloc ?_ _ | with_reducible refine bdrew ?_ | with_reducible refine below_drewN ?_ _ | with_reducible refine bset ?_ ?_ _ | with_reducible exact Nat.le_refl _ | with_reducible refine bsize ?_ | (dsimp only; refine Nat.le_trans ?_ (Nat.le_add_right _ _)) | with_reducible refine Nat.le_trans ?_ (Nat.le_add_right _ _) | (with_reducible refine bstep ?_ (by assumption))))
    · have hlt : n < d := by rw [h] at hc; simpa using hc
      obtain ⟨h1, h10⟩ := tkB_yes n d 10 h
      obtain ⟨a1, a2, a3, a4⟩ := am_of n d h1
      have hq : n / d = 0 := Int.ediv_eq_zero_of_lt a1 hlt
      have hcon := fun W => tanks_yes n d 10 (by omega) (by omega) h W
      rw [hq] at hcon
      have HC := Lib.hid hcon
      clear hc hcon hq
      go_enter Try.func50, Try.ntmps50
      (go_wp2_with fail; refine (HC.out _).mono ?_; rintro e w1 ⟨rfl, hb1⟩; have ha1 := hb1; obtain ⟨kc1, kf1, kz1, ky1, kx1, kv1, ku1⟩ := bcell hb1)
      go_wp2
      refine bodyPost_ret (v := .tuple #[.agg #[.int .i64 0, .int .i64 0], .bool false]) (by simp only [results, Try.results50]; go_simp) rfl ⟨rfl, ?_⟩
      (repeat (first | with_reducible exact Below.refl _ _ | with_reducible assumption | with_reducible refine balloc ?_ _ | with_reducible refine bdrew ?_ | with_reducible refine below_drewN ?_ _ | with_reducible refine bset ?_ ?_ _ | with_reducible exact Nat.le_refl _ | with_reducible refine bsize ?_ | (dsimp only; refine Nat.le_trans ?_ (Nat.le_add_right _ _)) | with_reducible refine Nat.le_trans ?_ (Nat.le_add_right _ _) | (with_reducible refine bstep ?_ (by assumption))))
  · obtain ⟨hB, hX, hY⟩ := lp_yes n d hc
    rw [hB, hX, hY]
    clear hB hX hY
    rw [Bool.and_eq_true, decide_eq_true_eq] at hc
    obtain ⟨h, hle⟩ := hc
    obtain ⟨h1, h10⟩ := tkB_yes n d 10 h
    obtain ⟨t, ht, e1, e2⟩ := tk_quot n d 10 10 rfl h
    obtain ⟨r0, r1, r2⟩ := rem_bd n d h1
    obtain ⟨a1, a2, a3, a4⟩ := am_of n d h1
    obtain ⟨v0, v1⟩ := drv_bd 1 t (Or.inl rfl) (by omega)
    have hrem := am_rem n d h1
    have hq : 1 ≤ n / d := (Int.le_ediv_iff_mul_le (by omega)).2 (by omega)
    have ht1 : 1 ≤ t := by omega
    have ht2 : ¬ (t : Int) < 1 := by omega
    have hcon := fun W => tanks_yes n d 10 (by omega) (by omega) h W
    unfold lpN lpD
    rw [e2]
    rw [e1] at hcon
    generalize n % d = r at *
    have hok : okk r d (drv 1 t) 1 = true := by simp [okk, hrem, am_whole (drv 1 t) (by omega) (by omega)]
    have hpart := fun W => dividedBy_pub_impl r d (drv 1 t) 1 (by omega) (by omega) (by omega) (by omega) W
    rw [hok, (two_yes _ _).1, (two_yes _ _).2.1, (two_yes _ _).2.2, Int.mul_one] at hpart
    have hdr := fun W => drives_impl 1 t (Or.inl rfl) (by omega) W
    generalize drv 1 t = v at *
    have HC := Lib.hid hcon
    have HP := Lib.hid hpart
    have HD := Lib.hid hdr
    clear hcon hpart hdr h1 h10 e1 e2 hok hrem hle h hq
    go_enter Try.func50, Try.ntmps50
    (go_wp2_with fail; refine (HC.out _).mono ?_; rintro e w1 ⟨rfl, hb1⟩; have ha1 := hb1; obtain ⟨kc1, kf1, kz1, ky1, kx1, kv1, ku1⟩ := bcell hb1)
    go_wp2
    first | (go_region_with (first | (go_at_call 84; refine (HD.out _).mono ?_; rintro e w2 ⟨rfl, rfl⟩) | (go_at_call 74; refine (whole_is_impl _ _).mono ?_; rintro e w2 ⟨rfl, rfl⟩) | (go_at_call 83; refine (HP.out _).mono ?_; rintro e w2 ⟨rfl, hb2⟩; have ha2 := bjoin ha1 hb2 (by (repeat (first | with_reducible exact Below.refl _ _ | with_reducible assumption | with_reducible refine balloc ?_ _ | with_reducible refine bdrew ?_ | with_reducible refine below_drewN ?_ _ | with_reducible refine bset ?_ ?_ _ | with_reducible exact Nat.le_refl _ | with_reducible refine bsize ?_ | (dsimp only; refine Nat.le_trans ?_ (Nat.le_add_right _ _)) | with_reducible refine Nat.le_trans ?_ (Nat.le_add_right _ _) | (with_reducible refine bstep ?_ (by assumption))))); obtain ⟨kc2, kf2, kz2, ky2, kx2, kv2, ku2⟩ := bcell hb2; obtain ⟨jc2, jf2, jz2, jy2, jx2, jv2, ju2⟩ := bcell ha2))) | fail
    all_goals go_wp2
    all_goals refine bodyPost_ret (v := .tuple #[.agg #[.int .i64 (lowN r (d * v)), .int .i64 (lowD r (d * v))], .bool (lowB r (d * v))]) (by simp only [results, Try.results50]; go_simp) rfl ⟨rfl, ?_⟩
    all_goals (repeat (first | with_reducible exact Below.refl _ _ | with_reducible assumption | with_reducible refine balloc ?_ _ | with_reducible refine bdrew ?_ | with_reducible refine below_drewN ?_ _ | with_reducible refine bset ?_ ?_ _ | with_reducible exact Nat.le_refl _ | with_reducible refine bsize ?_ | (dsimp only; refine Nat.le_trans ?_ (Nat.le_add_right _ _)) | with_reducible refine Nat.le_trans ?_ (Nat.le_add_right _ _) | (with_reducible refine bstep ?_ (by assumption))))

set_option maxHeartbeats 800000 in
theorem last_walk (n d : Int) (bn : -9223372036854775808 ≤ n ∧ n ≤ 9223372036854775807) (bd : -9223372036854775808 ≤ d ∧ d ≤ 9223372036854775807) (w : World) :
    Calls Try.prog 12 #[.agg #[.int .i64 n, .int .i64 d]] w fun e w' => e = .returned (.bool true) ∧ Below w.heap.size w w' := by
  go_enter Try.func12, Try.ntmps12
  (go_wp2_with fail; refine (toAmt _ _ _).mono ?_; rintro e w1 ⟨rfl, hb1⟩; have ha1 := hb1; obtain ⟨kc1, kf1, kz1, ky1, kx1, kv1, ku1⟩ := bcell hb1)
  (go_wp2_with fail; refine (last_spec n d _).mono ?_; rintro e w2 ⟨rfl, hb2⟩; have ha2 := bjoin ha1 hb2 (by (repeat (first | with_reducible exact Below.refl _ _ | with_reducible assumption | with_reducible refine balloc ?_ _ | with_reducible refine bdrew ?_ | with_reducible refine below_drewN ?_ _ | with_reducible refine bset ?_ ?_ _ | with_reducible exact Nat.le_refl _ | with_reducible refine bsize ?_ | (dsimp only; refine Nat.le_trans ?_ (Nat.le_add_right _ _)) | with_reducible refine Nat.le_trans ?_ (Nat.le_add_right _ _) | (with_reducible refine bstep ?_ (by assumption))))); obtain ⟨kc2, kf2, kz2, ky2, kx2, kv2, ku2⟩ := bcell hb2; obtain ⟨jc2, jf2, jz2, jy2, jx2, jv2, ju2⟩ := bcell ha2)
  go_wp2_with fail
  refine (toAmt_is _ _ _).mono ?_
  rintro e w3 ⟨rfl, rfl⟩
  (go_wp2_with fail; refine (last_impl n d bn bd _).mono ?_; rintro e w4 ⟨rfl, hb4⟩; (have ha4 : Below w.heap.size w w4 := by (repeat (first | with_reducible exact Below.refl _ _ | with_reducible assumption | with_reducible refine balloc ?_ _ | with_reducible refine bdrew ?_ | with_reducible refine below_drewN ?_ _ | with_reducible refine bset ?_ ?_ _ | with_reducible exact Nat.le_refl _ | with_reducible refine bsize ?_ | (dsimp only; refine Nat.le_trans ?_ (Nat.le_add_right _ _)) | with_reducible refine Nat.le_trans ?_ (Nat.le_add_right _ _) | (with_reducible refine bstep ?_ (by assumption))))); obtain ⟨kc4, kf4, kz4, ky4, kx4, kv4, ku4⟩ := bcell hb4)
  (go_wp2_with fail; refine (eq_same _ _ _).mono ?_; rintro e w5 ⟨rfl, hb5⟩; (have ha5 : Below w.heap.size w w5 := by (repeat (first | with_reducible exact Below.refl _ _ | with_reducible assumption | with_reducible refine balloc ?_ _ | with_reducible refine bdrew ?_ | with_reducible refine below_drewN ?_ _ | with_reducible refine bset ?_ ?_ _ | with_reducible exact Nat.le_refl _ | with_reducible refine bsize ?_ | (dsimp only; refine Nat.le_trans ?_ (Nat.le_add_right _ _)) | with_reducible refine Nat.le_trans ?_ (Nat.le_add_right _ _) | (with_reducible refine bstep ?_ (by assumption))))); obtain ⟨kc5, kf5, kz5, ky5, kx5, kv5, ku5⟩ := bcell hb5)
  go_wp2
  go_ret
  refine ⟨rfl, ?_⟩
  (repeat (first | with_reducible exact Below.refl _ _ | with_reducible assumption | with_reducible refine balloc ?_ _ | with_reducible refine bdrew ?_ | with_reducible refine below_drewN ?_ _ | with_reducible refine bset ?_ ?_ _ | with_reducible exact Nat.le_refl _ | with_reducible refine bsize ?_ | (dsimp only; refine Nat.le_trans ?_ (Nat.le_add_right _ _)) | with_reducible refine Nat.le_trans ?_ (Nat.le_add_right _ _) | (with_reducible refine bstep ?_ (by assumption))))

namespace fnExactLastPartOut
set_option maxRecDepth 100000 in
theorem lifted (os : Os) (started : os.Started) (H : Type) (enc : TypeId × Value → H) :
    ReturnsInHanded {} Try.checked os 12 .any (Rows.fnExactLastPartOutSpec.pre6 enc Try.prog Try.f12 Rows.fnExactLastPartOutRow.domain false) (Rows.fnExactLastPartOutSpec.post enc Try.prog Try.f12 false true false false) := by
  refine returnsInHanded_of_change (C := Try.checked) own started (by kernel_rfl) Try.func12
    (ChangeSpec.witness6 (enc := enc) (C := Try.checked) false ⟨#[], #[.agg #[.int .i64 0, .int .i64 0]], []⟩ 8 (by kernel_rfl) (by kernel_rfl) (by kernel_rfl) (by kernel_rfl)) ?_
  intro W base args ds gs before hval0 hW hcnd _
  have hval : ∀ (j : Nat) t v, Try.f12.params[j]? = some t → args[j]? = some v → Value.okWide Try.prog W .any base t v := hval0
  have hW' := hW
  obtain ⟨p, q, hA0, hV, rfl, hfz, hnd⟩ := hW
  have hA : DataW.TrodAll enc Try.prog W 0 (fun _ => true) true Try.f12.params.toList args.toList ds p := hA0
  rw [Try.params12] at hA hval
  obtain ⟨v0, vs0, d0, ds0, p0, q0, hargs, rfl, rfl, h0, r0⟩ := trodAll_cons hA
  obtain ⟨rfl, rfl, rfl⟩ := trodAll_nil r0
  obtain rfl : args = #[v0] := by cases args; simp_all
  obtain ⟨rfl, rfl⟩ := trodVars_none hV
  have k0 := h0
  have lt0 : ∀ x ∈ p0, x.block < W.heap.size := by obtain ⟨m, hm⟩ := k0; exact DataW.trod_lt m _ _ _ hm
  obtain ⟨n0, m0, rfl, bn0, bm0⟩ := open_amt (hval 0 33 v0 rfl rfl) h0
  clear hA0 hval0
  refine (last_walk n0 m0 bn0 bm0 W).mono fun e W1 ⟨he, bel⟩ => ?_
  subst he
  exact ⟨_, rfl, _, _, _, [], _, [], hW', trodAll_mk1 (shut_bool Try.underlying4 _), (trodAll_cons_mk (Below.trod laidOut (by kernel_rfl) (of_decide_eq_true (by kernel_rfl)) k0 bel lt0) trodAll_mk0), rfl, bel.frame _, fun h => by cases h⟩
theorem over : Rows.fnExactLastPartOutRow.holds Try.pinned (OpenSpec.ofChange Rows.fnExactLastPartOutSpec) :=
  OpenClaim.holds_of_wide 12 Try.f12 rfl rfl rfl rfl rfl rfl rfl ⟨rfl, rfl, rfl, rfl, rfl⟩ rfl rfl rfl rfl rfl (by kernel_rfl) Try.func12 (by kernel_rfl)
    (of_decide_eq_true (by kernel_rfl)) (by unfold Func.isWrapper; first | (rw [if_pos (by decide +kernel)]; kernel_rfl) | (rw [if_neg (by decide +kernel)]; exact ⟨rfl, rfl⟩))
    (fun os started H enc _ => lifted os started H enc)
theorem proved : Rows.FnExactLastPartOutSaid := over
end fnExactLastPartOut
end Go.Proofs.Ytifmijpipeekfaa
