/- Plans: the tank filled, on both sides. -/
import Derived.Test.YtjmmlknbdmngeaaPlanB
import Derived.Test.YtjmmlknbdmngeaaDepI
import Derived.Test.YtjmmlknbdmngeaaJeepS
import Derived.Deep.DeepCutAuto
namespace Go.Proofs.Ytjmmlknbdmngeaa
open Go.ChangeShapes Go.WideShapes Go.ChangeAt Go.RowKit Go.Joins
set_option maxRecDepth 100000
set_option linter.unusedVariables false
set_option linter.unusedSimpArgs false


set_option maxHeartbeats 6400000 in
theorem fill_impl (g : Nat) (v : Value) (l : List StepV) (n d rn rd : Int) (hn : amB n d = true) (hr : amB rn rd = true) (hr0 : rn ≠ 0) (hB : lowB (1 * d - n * 1) (1 * d) = true) (hN : lowN (1 * d - n * 1) (1 * d) = rn) (hD : lowD (1 * d - n * 1) (1 * d) = rd) (hl : l.length ≤ 1000) (w : World) (hP : PlanSt g w v l n d) :
    Calls Try.prog 91 #[.pointer (some ⟨g, 0, none⟩)] w fun e w' => e = .returned (.tuple #[]) ∧ ∃ v', PlanSt g w' v' (l ++ [⟨3, rn, rd⟩]) (tnN 3 n d rn rd) (tnD 3 n d rn rd) ∧ PlanKeep g w w' := by
  have HL : Hid (∀ W : World, Calls Try.prog 110 #[.agg #[.int .i64 1, .int .i64 1], .agg #[.int .i64 n, .int .i64 d]] W fun e w' => e = .returned (.tuple #[.agg #[.int .i64 rn, .int .i64 rd], .bool true]) ∧ Below W.heap.size W w') := Lib.hid (fun W => by
    have b1 := (amB_iff _ _).1 hn
    have h := minus_pub_impl 1 1 n d (by omega) (by omega) (by omega) (by omega) W
    have hok : okk 1 1 n d = true := by simp [okk, hn, am_whole 1 (by omega) (by omega)]
    rw [hok, (two_yes _ _).1, (two_yes _ _).2.1, (two_yes _ _).2.2] at h
    rw [hB, hN, hD] at h
    exact h)
  have HAD := Lib.hid (fun (W : World) (h : PlanSt g W v l n d) => add_impl g v l n d 3 rn rd hn hr hl W h)
  have HP := Lib.hid hP
  obtain ⟨c0, c1, c2, z0, z1, z2, own, sz⟩ := hP
  clear hB hN hD own c0 z0 z1 z2
  go_enter Try.func91, Try.ntmps91
  go_upto_region 0 with fail
  go_cut [2, 3] (LeftAt rn rd w)
  case first =>
    first | (go_region_with (first | (go_at_call 88; refine (whole_is_impl _ _).mono ?_; rintro e w1 ⟨rfl, rfl⟩) | (go_at_call 110; refine (HL.out _).mono ?_; rintro e w2 ⟨rfl, hb2⟩; obtain ⟨kc2, kf2, kz2, ky2, kx2, kv2, ku2⟩ := bcell hb2))) | fail
    all_goals (go_wp2_with fail; go_meet)
    all_goals refine ⟨_, rfl, rfl, ?_, ?_, ?_, ?_, ?_, ?_, ?_⟩
    all_goals first | ((repeat (first | with_reducible exact Below.refl _ _ | with_reducible assumption | with_reducible refine balloc ?_ _ | with_reducible refine bdrew ?_ | with_reducible refine below_drewN ?_ _ | with_reducible refine bset ?_ ?_ _ | with_reducible exact Nat.le_refl _ | with_reducible refine bsize ?_ | (dsimp only; refine Nat.le_trans ?_ (Nat.le_add_right _ _)) | with_reducible refine Nat.le_trans ?_ (Nat.le_add_right _ _) | (with_reducible refine bstep ?_ (by assumption)))); done) | (simp [go_sem, kc2, kz2, ky2, kf2]; done) | (simp; omega)
  case rest =>
    obtain ⟨b, rfl, rfl, h0, h1, f0, f1, hgV, hgs, hgb⟩ := hcut
    go_wp2_with fail
    refine (HAD.out _ (PlanSt.later HP.out (by (repeat (first | with_reducible exact Below.refl _ _ | with_reducible assumption | with_reducible refine balloc ?_ _ | with_reducible refine bdrew ?_ | with_reducible refine below_drewN ?_ _ | with_reducible refine bset ?_ ?_ _ | with_reducible exact Nat.le_refl _ | with_reducible refine bsize ?_ | (dsimp only; refine Nat.le_trans ?_ (Nat.le_add_right _ _)) | with_reducible refine Nat.le_trans ?_ (Nat.le_add_right _ _) | (with_reducible refine bstep ?_ (by assumption))))))).mono ?_
    rintro e w3 ⟨rfl, v', hP3, hk3⟩
    go_wp2
    go_end0
    exact ⟨rfl, v', hP3, ((PlanKeep.refl g w).below (by (repeat (first | with_reducible exact Below.refl _ _ | with_reducible assumption | with_reducible refine balloc ?_ _ | with_reducible refine bdrew ?_ | with_reducible refine below_drewN ?_ _ | with_reducible refine bset ?_ ?_ _ | with_reducible exact Nat.le_refl _ | with_reducible refine bsize ?_ | (dsimp only; refine Nat.le_trans ?_ (Nat.le_add_right _ _)) | with_reducible refine Nat.le_trans ?_ (Nat.le_add_right _ _) | (with_reducible refine bstep ?_ (by assumption))))) sz).trans hk3⟩

set_option maxHeartbeats 6400000 in
theorem fill_spec (g : Nat) (v : Value) (l : List StepV) (n d rn rd : Int) (hn : amB n d = true) (hr : amB rn rd = true) (hr0 : rn ≠ 0) (hB : lowB (1 * d - n * 1) (1 * d) = true) (hN : lowN (1 * d - n * 1) (1 * d) = rn) (hD : lowD (1 * d - n * 1) (1 * d) = rd) (hl : l.length ≤ 1000) (w : World) (hP : PlanSt g w v l n d) :
    Calls Try.prog 114 #[.pointer (some ⟨g, 0, none⟩)] w fun e w' => e = .returned (.tuple #[]) ∧ ∃ v', PlanSt g w' v' (l ++ [⟨3, rn, rd⟩]) (tnN 3 n d rn rd) (tnD 3 n d rn rd) ∧ PlanKeep g w w' := by
  have HL : Hid (∀ W : World, Calls Try.prog 105 #[.agg #[.int .i64 1, .int .i64 1], .agg #[.int .i64 n, .int .i64 d]] W fun e w' => e = .returned (.tuple #[.agg #[.int .i64 rn, .int .i64 rd], .bool true]) ∧ Below W.heap.size W w') := Lib.hid (fun W => by
    have h := amLess_spec 1 1 n d (am_of _ _ (am_whole 1 (by omega) (by omega))) (am_of _ _ hn) W
    rw [hB, hN, hD] at h
    exact h)
  have HAD := Lib.hid (fun (W : World) (h : PlanSt g W v l n d) => add_spec g v l n d 3 rn rd hn hr hr0 hl W h)
  have HP := Lib.hid hP
  obtain ⟨c0, c1, c2, z0, z1, z2, own, sz⟩ := hP
  clear hB hN hD own c0 z0 z1 z2
  go_enter Try.func114, Try.ntmps114
  go_upto_region 0 with fail
  go_cut [2, 3] (LeftAt rn rd w)
  case first =>
    first | (go_region_with (first | (go_at_call 80; refine (whole_is_spec _ _).mono ?_; rintro e w1 ⟨rfl, rfl⟩) | (go_at_call 105; refine (HL.out _).mono ?_; rintro e w2 ⟨rfl, hb2⟩; obtain ⟨kc2, kf2, kz2, ky2, kx2, kv2, ku2⟩ := bcell hb2))) | fail
    all_goals (go_wp2_with fail; go_meet)
    all_goals refine ⟨_, rfl, rfl, ?_, ?_, ?_, ?_, ?_, ?_, ?_⟩
    all_goals first | ((repeat (first | with_reducible exact Below.refl _ _ | with_reducible assumption | with_reducible refine balloc ?_ _ | with_reducible refine bdrew ?_ | with_reducible refine below_drewN ?_ _ | with_reducible refine bset ?_ ?_ _ | with_reducible exact Nat.le_refl _ | with_reducible refine bsize ?_ | (dsimp only; refine Nat.le_trans ?_ (Nat.le_add_right _ _)) | with_reducible refine Nat.le_trans ?_ (Nat.le_add_right _ _) | (with_reducible refine bstep ?_ (by assumption)))); done) | (simp [go_sem, kc2, kz2, ky2, kf2]; done) | (simp; omega)
  case rest =>
    obtain ⟨b, rfl, rfl, h0, h1, f0, f1, hgV, hgs, hgb⟩ := hcut
    go_wp2_with fail
    refine (HAD.out _ (PlanSt.later HP.out (by (repeat (first | with_reducible exact Below.refl _ _ | with_reducible assumption | with_reducible refine balloc ?_ _ | with_reducible refine bdrew ?_ | with_reducible refine below_drewN ?_ _ | with_reducible refine bset ?_ ?_ _ | with_reducible exact Nat.le_refl _ | with_reducible refine bsize ?_ | (dsimp only; refine Nat.le_trans ?_ (Nat.le_add_right _ _)) | with_reducible refine Nat.le_trans ?_ (Nat.le_add_right _ _) | (with_reducible refine bstep ?_ (by assumption))))))).mono ?_
    rintro e w3 ⟨rfl, v', hP3, hk3⟩
    go_wp2
    go_end0
    exact ⟨rfl, v', hP3, ((PlanKeep.refl g w).below (by (repeat (first | with_reducible exact Below.refl _ _ | with_reducible assumption | with_reducible refine balloc ?_ _ | with_reducible refine bdrew ?_ | with_reducible refine below_drewN ?_ _ | with_reducible refine bset ?_ ?_ _ | with_reducible exact Nat.le_refl _ | with_reducible refine bsize ?_ | (dsimp only; refine Nat.le_trans ?_ (Nat.le_add_right _ _)) | with_reducible refine Nat.le_trans ?_ (Nat.le_add_right _ _) | (with_reducible refine bstep ?_ (by assumption))))) sz).trans hk3⟩

end Go.Proofs.Ytjmmlknbdmngeaa
