/- Relays: the answers that are one share, on both sides. -/
import Derived.Test.YtgpbkjakmbmccaaRelA
namespace Go.Proofs.Ytgpbkjakmbmccaa
open Go.ChangeShapes Go.WideShapes Go.ChangeAt Go.RowKit Go.Joins
set_option maxRecDepth 100000
set_option linter.unusedVariables false
set_option linter.unusedSimpArgs false


set_option maxHeartbeats 800000 in
theorem BackReach_impl (n : Int) (bn : -9223372036854775808 ≤ n ∧ n ≤ 9223372036854775807) (w : World) :
    Calls Try.prog 34 #[.int .i64 n] w fun e w' => e = .returned (.tuple #[.agg #[.int .i64 (shX n (2 * n) (n + 1)), .int .i64 (shY n (2 * n) (n + 1))], .bool (inB n 1 20)]) ∧ Below w.heap.size w w' := by
  have HS := Lib.hid (fun (a b : Int) (ha : a ≤ 9223372036854775807) (hb : b ≤ 9223372036854775807) (W : World) => shareOf_impl n a b ha hb W)
  cases hk : inB n 1 20
  · have e1 : ∀ a b, shX n a b = 0 := by intro a b; simp [shX, hk]
    have e2 : ∀ a b, shY n a b = 0 := by intro a b; simp [shY, hk]
    rw [hk] at HS
    simp only [e1, e2] at HS ⊢; clear e1 e2
    go_enter Try.func34, Try.ntmps34
    go_wp2_with (go_at_call 79; refine (HS.out _ _ ?_ ?_ _).mono ?_; (first | exact bn.2 | exact (int_bounds (wf_wrap .i64 _)).2 | (unfold wrap64; omega) | omega); (first | exact bn.2 | exact (int_bounds (wf_wrap .i64 _)).2 | (unfold wrap64; omega) | omega); rintro e w1 ⟨rfl, hb1⟩; obtain ⟨kc1, kf1, kz1, ky1, kx1, kv1, ku1⟩ := bcell hb1)
    refine bodyPost_ret (v := .tuple #[.agg #[.int .i64 0, .int .i64 0], .bool false]) (by simp only [results, Try.results34]; go_simp) rfl ⟨rfl, ?_⟩
    (repeat (first | with_reducible exact Below.refl _ _ | with_reducible assumption | with_reducible refine balloc ?_ _ | with_reducible refine bdrew ?_ | with_reducible refine below_drewN ?_ _ | with_reducible refine bset ?_ ?_ _ | with_reducible exact Nat.le_refl _ | with_reducible refine bsize ?_ | (dsimp only; refine Nat.le_trans ?_ (Nat.le_add_right _ _)) | with_reducible refine Nat.le_trans ?_ (Nat.le_add_right _ _) | (with_reducible refine bstep ?_ (by assumption))))
  · have hb := in_yes n hk
    rw [hk] at HS
    have e1 : shX n (2 * n) (n + 1) = lowN (2 * n) (n + 1) := by simp [shX, hk]
    have e2 : shY n (2 * n) (n + 1) = lowD (2 * n) (n + 1) := by simp [shY, hk]
    have hcon := HS.out (2 * n) (n + 1) (by omega) (by omega)
    rw [e1, e2] at hcon
    rw [e1, e2]
    have HC := Lib.hid hcon
    clear hcon e1 e2 HS
    go_enter Try.func34, Try.ntmps34
    (go_wp2_with fail; refine (HC.out _).mono ?_; rintro e w1 ⟨rfl, hb1⟩; have ha1 := hb1; obtain ⟨kc1, kf1, kz1, ky1, kx1, kv1, ku1⟩ := bcell hb1)
    go_wp2
    refine bodyPost_ret (v := .tuple #[.agg #[.int .i64 (lowN (2 * n) (n + 1)), .int .i64 (lowD (2 * n) (n + 1))], .bool true]) (by simp only [results, Try.results34]; go_simp) rfl ⟨rfl, ?_⟩
    (repeat (first | with_reducible exact Below.refl _ _ | with_reducible assumption | with_reducible refine balloc ?_ _ | with_reducible refine bdrew ?_ | with_reducible refine below_drewN ?_ _ | with_reducible refine bset ?_ ?_ _ | with_reducible exact Nat.le_refl _ | with_reducible refine bsize ?_ | (dsimp only; refine Nat.le_trans ?_ (Nat.le_add_right _ _)) | with_reducible refine Nat.le_trans ?_ (Nat.le_add_right _ _) | (with_reducible refine bstep ?_ (by assumption))))
set_option maxHeartbeats 800000 in
theorem BackReach_spec (n : Int) (w : World) :
    Calls Try.prog 35 #[.int .i64 n] w fun e w' => e = .returned (.tuple #[.agg #[.int .i64 (shX n (2 * n) (n + 1)), .int .i64 (shY n (2 * n) (n + 1))], .bool (inB n 1 20)]) ∧ Below w.heap.size w w' := by
  cases hk : inB n 1 20
  · have e1 : shX n (2 * n) (n + 1) = 0 := by simp [shX, hk]
    have e2 : shY n (2 * n) (n + 1) = 0 := by simp [shY, hk]
    rw [e1, e2]; clear e1 e2
    go_enter Try.func35, Try.ntmps35
    go_wp2_with (go_at_call 77; refine (many_spec _ _).mono ?_; rintro e w1 ⟨rfl, rfl⟩; rw [hk])
    refine bodyPost_ret (v := .tuple #[.agg #[.int .i64 0, .int .i64 0], .bool false]) (by simp only [results, Try.results35]; go_simp) rfl ⟨rfl, ?_⟩
    (repeat (first | with_reducible exact Below.refl _ _ | with_reducible assumption | with_reducible refine balloc ?_ _ | with_reducible refine bdrew ?_ | with_reducible refine below_drewN ?_ _ | with_reducible refine bset ?_ ?_ _ | with_reducible exact Nat.le_refl _ | with_reducible refine bsize ?_ | (dsimp only; refine Nat.le_trans ?_ (Nat.le_add_right _ _)) | with_reducible refine Nat.le_trans ?_ (Nat.le_add_right _ _) | (with_reducible refine bstep ?_ (by assumption))))
  · have hb := in_yes n hk
    have e1 : shX n (2 * n) (n + 1) = lowN (2 * n) (n + 1) := by simp [shX, hk]
    have e2 : shY n (2 * n) (n + 1) = lowD (2 * n) (n + 1) := by simp [shY, hk]
    rw [e1, e2]; clear e1 e2
    have hcon := fun (W : World) => reShare_spec (2 * n) (n) (by omega) (by omega) (by omega) (by omega) W
    have eq : (n) + 1 = (n + 1) := by omega
    rw [eq] at hcon
    have HC := Lib.hid hcon
    clear hcon eq
    go_enter Try.func35, Try.ntmps35
    go_wp2_with (first | (go_at_call 77; refine (many_spec _ _).mono ?_; rintro e w1 ⟨rfl, rfl⟩; rw [hk]) | (go_at_call 78; refine (HC.out _).mono ?_; rintro e w1 ⟨rfl, hb1⟩; obtain ⟨kc1, kf1, kz1, ky1, kx1, kv1, ku1⟩ := bcell hb1))
    refine bodyPost_ret (v := .tuple #[.agg #[.int .i64 (lowN (2 * n) (n + 1)), .int .i64 (lowD (2 * n) (n + 1))], .bool true]) (by simp only [results, Try.results35]; go_simp) rfl ⟨rfl, ?_⟩
    (repeat (first | with_reducible exact Below.refl _ _ | with_reducible assumption | with_reducible refine balloc ?_ _ | with_reducible refine bdrew ?_ | with_reducible refine below_drewN ?_ _ | with_reducible refine bset ?_ ?_ _ | with_reducible exact Nat.le_refl _ | with_reducible refine bsize ?_ | (dsimp only; refine Nat.le_trans ?_ (Nat.le_add_right _ _)) | with_reducible refine Nat.le_trans ?_ (Nat.le_add_right _ _) | (with_reducible refine bstep ?_ (by assumption))))

set_option maxHeartbeats 800000 in
theorem ReturnReach_impl (n : Int) (bn : -9223372036854775808 ≤ n ∧ n ≤ 9223372036854775807) (w : World) :
    Calls Try.prog 36 #[.int .i64 n] w fun e w' => e = .returned (.tuple #[.agg #[.int .i64 (shX n (n) (n + 1)), .int .i64 (shY n (n) (n + 1))], .bool (inB n 1 20)]) ∧ Below w.heap.size w w' := by
  have HS := Lib.hid (fun (a b : Int) (ha : a ≤ 9223372036854775807) (hb : b ≤ 9223372036854775807) (W : World) => shareOf_impl n a b ha hb W)
  cases hk : inB n 1 20
  · have e1 : ∀ a b, shX n a b = 0 := by intro a b; simp [shX, hk]
    have e2 : ∀ a b, shY n a b = 0 := by intro a b; simp [shY, hk]
    rw [hk] at HS
    simp only [e1, e2] at HS ⊢; clear e1 e2
    go_enter Try.func36, Try.ntmps36
    go_wp2_with (go_at_call 79; refine (HS.out _ _ ?_ ?_ _).mono ?_; (first | exact bn.2 | exact (int_bounds (wf_wrap .i64 _)).2 | (unfold wrap64; omega) | omega); (first | exact bn.2 | exact (int_bounds (wf_wrap .i64 _)).2 | (unfold wrap64; omega) | omega); rintro e w1 ⟨rfl, hb1⟩; obtain ⟨kc1, kf1, kz1, ky1, kx1, kv1, ku1⟩ := bcell hb1)
    refine bodyPost_ret (v := .tuple #[.agg #[.int .i64 0, .int .i64 0], .bool false]) (by simp only [results, Try.results36]; go_simp) rfl ⟨rfl, ?_⟩
    (repeat (first | with_reducible exact Below.refl _ _ | with_reducible assumption | with_reducible refine balloc ?_ _ | with_reducible refine bdrew ?_ | with_reducible refine below_drewN ?_ _ | with_reducible refine bset ?_ ?_ _ | with_reducible exact Nat.le_refl _ | with_reducible refine bsize ?_ | (dsimp only; refine Nat.le_trans ?_ (Nat.le_add_right _ _)) | with_reducible refine Nat.le_trans ?_ (Nat.le_add_right _ _) | (with_reducible refine bstep ?_ (by assumption))))
  · have hb := in_yes n hk
    rw [hk] at HS
    have e1 : shX n (n) (n + 1) = lowN (n) (n + 1) := by simp [shX, hk]
    have e2 : shY n (n) (n + 1) = lowD (n) (n + 1) := by simp [shY, hk]
    have hcon := HS.out (n) (n + 1) (by omega) (by omega)
    rw [e1, e2] at hcon
    rw [e1, e2]
    have HC := Lib.hid hcon
    clear hcon e1 e2 HS
    go_enter Try.func36, Try.ntmps36
    (go_wp2_with fail; refine (HC.out _).mono ?_; rintro e w1 ⟨rfl, hb1⟩; have ha1 := hb1; obtain ⟨kc1, kf1, kz1, ky1, kx1, kv1, ku1⟩ := bcell hb1)
    go_wp2
    refine bodyPost_ret (v := .tuple #[.agg #[.int .i64 (lowN (n) (n + 1)), .int .i64 (lowD (n) (n + 1))], .bool true]) (by simp only [results, Try.results36]; go_simp) rfl ⟨rfl, ?_⟩
    (repeat (first | with_reducible exact Below.refl _ _ | with_reducible assumption | with_reducible refine balloc ?_ _ | with_reducible refine bdrew ?_ | with_reducible refine below_drewN ?_ _ | with_reducible refine bset ?_ ?_ _ | with_reducible exact Nat.le_refl _ | with_reducible refine bsize ?_ | (dsimp only; refine Nat.le_trans ?_ (Nat.le_add_right _ _)) | with_reducible refine Nat.le_trans ?_ (Nat.le_add_right _ _) | (with_reducible refine bstep ?_ (by assumption))))
set_option maxHeartbeats 800000 in
theorem ReturnReach_spec (n : Int) (w : World) :
    Calls Try.prog 37 #[.int .i64 n] w fun e w' => e = .returned (.tuple #[.agg #[.int .i64 (shX n (n) (n + 1)), .int .i64 (shY n (n) (n + 1))], .bool (inB n 1 20)]) ∧ Below w.heap.size w w' := by
  cases hk : inB n 1 20
  · have e1 : shX n (n) (n + 1) = 0 := by simp [shX, hk]
    have e2 : shY n (n) (n + 1) = 0 := by simp [shY, hk]
    rw [e1, e2]; clear e1 e2
    go_enter Try.func37, Try.ntmps37
    go_wp2_with (go_at_call 77; refine (many_spec _ _).mono ?_; rintro e w1 ⟨rfl, rfl⟩; rw [hk])
    refine bodyPost_ret (v := .tuple #[.agg #[.int .i64 0, .int .i64 0], .bool false]) (by simp only [results, Try.results37]; go_simp) rfl ⟨rfl, ?_⟩
    (repeat (first | with_reducible exact Below.refl _ _ | with_reducible assumption | with_reducible refine balloc ?_ _ | with_reducible refine bdrew ?_ | with_reducible refine below_drewN ?_ _ | with_reducible refine bset ?_ ?_ _ | with_reducible exact Nat.le_refl _ | with_reducible refine bsize ?_ | (dsimp only; refine Nat.le_trans ?_ (Nat.le_add_right _ _)) | with_reducible refine Nat.le_trans ?_ (Nat.le_add_right _ _) | (with_reducible refine bstep ?_ (by assumption))))
  · have hb := in_yes n hk
    have e1 : shX n (n) (n + 1) = lowN (n) (n + 1) := by simp [shX, hk]
    have e2 : shY n (n) (n + 1) = lowD (n) (n + 1) := by simp [shY, hk]
    rw [e1, e2]; clear e1 e2
    have hcon := fun (W : World) => reShare_spec (n) (n) (by omega) (by omega) (by omega) (by omega) W
    have eq : (n) + 1 = (n + 1) := by omega
    rw [eq] at hcon
    have HC := Lib.hid hcon
    clear hcon eq
    go_enter Try.func37, Try.ntmps37
    go_wp2_with (first | (go_at_call 77; refine (many_spec _ _).mono ?_; rintro e w1 ⟨rfl, rfl⟩; rw [hk]) | (go_at_call 78; refine (HC.out _).mono ?_; rintro e w1 ⟨rfl, hb1⟩; obtain ⟨kc1, kf1, kz1, ky1, kx1, kv1, ku1⟩ := bcell hb1))
    refine bodyPost_ret (v := .tuple #[.agg #[.int .i64 (lowN (n) (n + 1)), .int .i64 (lowD (n) (n + 1))], .bool true]) (by simp only [results, Try.results37]; go_simp) rfl ⟨rfl, ?_⟩
    (repeat (first | with_reducible exact Below.refl _ _ | with_reducible assumption | with_reducible refine balloc ?_ _ | with_reducible refine bdrew ?_ | with_reducible refine below_drewN ?_ _ | with_reducible refine bset ?_ ?_ _ | with_reducible exact Nat.le_refl _ | with_reducible refine bsize ?_ | (dsimp only; refine Nat.le_trans ?_ (Nat.le_add_right _ _)) | with_reducible refine Nat.le_trans ?_ (Nat.le_add_right _ _) | (with_reducible refine bstep ?_ (by assumption))))

set_option maxHeartbeats 800000 in
theorem LastFull_impl (n : Int) (bn : -9223372036854775808 ≤ n ∧ n ≤ 9223372036854775807) (w : World) :
    Calls Try.prog 38 #[.int .i64 n] w fun e w' => e = .returned (.tuple #[.agg #[.int .i64 (shX n (n - 1) (n + 1)), .int .i64 (shY n (n - 1) (n + 1))], .bool (inB n 1 20)]) ∧ Below w.heap.size w w' := by
  have HS := Lib.hid (fun (a b : Int) (ha : a ≤ 9223372036854775807) (hb : b ≤ 9223372036854775807) (W : World) => shareOf_impl n a b ha hb W)
  cases hk : inB n 1 20
  · have e1 : ∀ a b, shX n a b = 0 := by intro a b; simp [shX, hk]
    have e2 : ∀ a b, shY n a b = 0 := by intro a b; simp [shY, hk]
    rw [hk] at HS
    simp only [e1, e2] at HS ⊢; clear e1 e2
    go_enter Try.func38, Try.ntmps38
    go_wp2_with (go_at_call 79; refine (HS.out _ _ ?_ ?_ _).mono ?_; (first | exact bn.2 | exact (int_bounds (wf_wrap .i64 _)).2 | (unfold wrap64; omega) | omega); (first | exact bn.2 | exact (int_bounds (wf_wrap .i64 _)).2 | (unfold wrap64; omega) | omega); rintro e w1 ⟨rfl, hb1⟩; obtain ⟨kc1, kf1, kz1, ky1, kx1, kv1, ku1⟩ := bcell hb1)
    refine bodyPost_ret (v := .tuple #[.agg #[.int .i64 0, .int .i64 0], .bool false]) (by simp only [results, Try.results38]; go_simp) rfl ⟨rfl, ?_⟩
    (repeat (first | with_reducible exact Below.refl _ _ | with_reducible assumption | with_reducible refine balloc ?_ _ | with_reducible refine bdrew ?_ | with_reducible refine below_drewN ?_ _ | with_reducible refine bset ?_ ?_ _ | with_reducible exact Nat.le_refl _ | with_reducible refine bsize ?_ | (dsimp only; refine Nat.le_trans ?_ (Nat.le_add_right _ _)) | with_reducible refine Nat.le_trans ?_ (Nat.le_add_right _ _) | (with_reducible refine bstep ?_ (by assumption))))
  · have hb := in_yes n hk
    rw [hk] at HS
    have e1 : shX n (n - 1) (n + 1) = lowN (n - 1) (n + 1) := by simp [shX, hk]
    have e2 : shY n (n - 1) (n + 1) = lowD (n - 1) (n + 1) := by simp [shY, hk]
    have hcon := HS.out (n - 1) (n + 1) (by omega) (by omega)
    rw [e1, e2] at hcon
    rw [e1, e2]
    have HC := Lib.hid hcon
    clear hcon e1 e2 HS
    go_enter Try.func38, Try.ntmps38
    (go_wp2_with fail; refine (HC.out _).mono ?_; rintro e w1 ⟨rfl, hb1⟩; have ha1 := hb1; obtain ⟨kc1, kf1, kz1, ky1, kx1, kv1, ku1⟩ := bcell hb1)
    go_wp2
    refine bodyPost_ret (v := .tuple #[.agg #[.int .i64 (lowN (n - 1) (n + 1)), .int .i64 (lowD (n - 1) (n + 1))], .bool true]) (by simp only [results, Try.results38]; go_simp) rfl ⟨rfl, ?_⟩
    (repeat (first | with_reducible exact Below.refl _ _ | with_reducible assumption | with_reducible refine balloc ?_ _ | with_reducible refine bdrew ?_ | with_reducible refine below_drewN ?_ _ | with_reducible refine bset ?_ ?_ _ | with_reducible exact Nat.le_refl _ | with_reducible refine bsize ?_ | (dsimp only; refine Nat.le_trans ?_ (Nat.le_add_right _ _)) | with_reducible refine Nat.le_trans ?_ (Nat.le_add_right _ _) | (with_reducible refine bstep ?_ (by assumption))))
set_option maxHeartbeats 800000 in
theorem LastFull_spec (n : Int) (w : World) :
    Calls Try.prog 39 #[.int .i64 n] w fun e w' => e = .returned (.tuple #[.agg #[.int .i64 (shX n (n - 1) (n + 1)), .int .i64 (shY n (n - 1) (n + 1))], .bool (inB n 1 20)]) ∧ Below w.heap.size w w' := by
  cases hk : inB n 1 20
  · have e1 : shX n (n - 1) (n + 1) = 0 := by simp [shX, hk]
    have e2 : shY n (n - 1) (n + 1) = 0 := by simp [shY, hk]
    rw [e1, e2]; clear e1 e2
    go_enter Try.func39, Try.ntmps39
    go_wp2_with (go_at_call 77; refine (many_spec _ _).mono ?_; rintro e w1 ⟨rfl, rfl⟩; rw [hk])
    refine bodyPost_ret (v := .tuple #[.agg #[.int .i64 0, .int .i64 0], .bool false]) (by simp only [results, Try.results39]; go_simp) rfl ⟨rfl, ?_⟩
    (repeat (first | with_reducible exact Below.refl _ _ | with_reducible assumption | with_reducible refine balloc ?_ _ | with_reducible refine bdrew ?_ | with_reducible refine below_drewN ?_ _ | with_reducible refine bset ?_ ?_ _ | with_reducible exact Nat.le_refl _ | with_reducible refine bsize ?_ | (dsimp only; refine Nat.le_trans ?_ (Nat.le_add_right _ _)) | with_reducible refine Nat.le_trans ?_ (Nat.le_add_right _ _) | (with_reducible refine bstep ?_ (by assumption))))
  · have hb := in_yes n hk
    have e1 : shX n (n - 1) (n + 1) = lowN (n - 1) (n + 1) := by simp [shX, hk]
    have e2 : shY n (n - 1) (n + 1) = lowD (n - 1) (n + 1) := by simp [shY, hk]
    rw [e1, e2]; clear e1 e2
    have hcon := fun (W : World) => reShare_spec (n - 1) (n) (by omega) (by omega) (by omega) (by omega) W
    have eq : (n) + 1 = (n + 1) := by omega
    rw [eq] at hcon
    have HC := Lib.hid hcon
    clear hcon eq
    go_enter Try.func39, Try.ntmps39
    go_wp2_with (first | (go_at_call 77; refine (many_spec _ _).mono ?_; rintro e w1 ⟨rfl, rfl⟩; rw [hk]) | (go_at_call 78; refine (HC.out _).mono ?_; rintro e w1 ⟨rfl, hb1⟩; obtain ⟨kc1, kf1, kz1, ky1, kx1, kv1, ku1⟩ := bcell hb1))
    refine bodyPost_ret (v := .tuple #[.agg #[.int .i64 (lowN (n - 1) (n + 1)), .int .i64 (lowD (n - 1) (n + 1))], .bool true]) (by simp only [results, Try.results39]; go_simp) rfl ⟨rfl, ?_⟩
    (repeat (first | with_reducible exact Below.refl _ _ | with_reducible assumption | with_reducible refine balloc ?_ _ | with_reducible refine bdrew ?_ | with_reducible refine below_drewN ?_ _ | with_reducible refine bset ?_ ?_ _ | with_reducible exact Nat.le_refl _ | with_reducible refine bsize ?_ | (dsimp only; refine Nat.le_trans ?_ (Nat.le_add_right _ _)) | with_reducible refine Nat.le_trans ?_ (Nat.le_add_right _ _) | (with_reducible refine bstep ?_ (by assumption))))

end Go.Proofs.Ytgpbkjakmbmccaa
