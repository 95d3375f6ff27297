/- Camels: contracts of CountTrips, RateOf on both sides. -/
import Derived.Test.YtgpbkjakmbmccaaCam4
import Derived.Test.YtgpbkjakmbmccaaCam5
import Derived.Deep.RegionHeld3
import Derived.Deep.DeepCutAuto
namespace Go.Proofs.Ytgpbkjakmbmccaa
open Go.RowKit
set_option maxRecDepth 100000
set_option linter.unusedVariables false
set_option linter.unusedSimpArgs false

theorem whole_is_implC (k : Int) (w : World) :
    Calls Try.prog 52 #[.int .i64 k] w fun e w' => e = .returned (.agg #[.int .i64 k, .int .i64 1]) ∧ w.alloc (.cells #[.int .i64 k, .int .i64 1] 26) = w' := by
  go_enter Try.func52, Try.ntmps52
  go_wp2
  exact bodyPost_ret (v := .agg #[.int .i64 k, .int .i64 1]) (by simp [results, Try.results52, go_sem]) rfl ⟨rfl, rfl⟩
/-- How often at first; the rate at first. -/
def ctX (L E n d : Int) : Int := if askB L E n d = true then (trp (L * d) n : Int) else 0
def rtX (L E n d : Int) : Int := if askB L E n d = true then (2 * (trp (L * d) n : Int) - 1) * E else 0
set_option maxHeartbeats 1600000 in
theorem ct_impl (L E n d : Int) (bn : -9223372036854775808 ≤ n ∧ n ≤ 9223372036854775807) (bd : -9223372036854775808 ≤ d ∧ d ≤ 9223372036854775807) (w : World) :
    Calls Try.prog 54 #[.agg #[.int .i64 L, .int .i64 E], .agg #[.int .i64 n, .int .i64 d]] w fun e w' => e = .returned (.tuple #[.int .i64 (ctX L E n d), .bool (askB L E n d)]) ∧ Below w.heap.size w w' := by
  cases h : askB L E n d
  · have e : ctX L E n d = 0 := by simp [ctX, h]
    rw [e]; clear e
    go_enter Try.func54, Try.ntmps54
    (go_wp2_with fail; refine (ask_impl _ _ _ _ bn bd _).mono ?_; rintro e w1 ⟨rfl, hb1⟩; rw [h]; have ha1 := hb1; obtain ⟨kc1, kf1, kz1, ky1, kx1, kv1, ku1⟩ := bcell hb1)
    go_wp2
    go_ret2
    refine ⟨rfl, ?_⟩
    (repeat (first | with_reducible exact Below.refl _ _ | with_reducible assumption | with_reducible refine balloc ?_ _ | with_reducible refine bdrew ?_ | with_reducible refine below_drewN ?_ _ | with_reducible refine bset ?_ ?_ _ | with_reducible exact Nat.le_refl _ | with_reducible refine bsize ?_ | (dsimp only; refine Nat.le_trans ?_ (Nat.le_add_right _ _)) | with_reducible refine Nat.le_trans ?_ (Nat.le_add_right _ _) | (with_reducible refine bstep ?_ (by assumption))))
  · have e : ctX L E n d = (trp (L * d) n : Int) := by simp [ctX, h]
    rw [e]; clear e
    obtain ⟨i1, i2, i3, i4⟩ := askB_yes L E n d h
    obtain ⟨j1, j2, j3, j4⟩ := camB_yes L E i1
    have a1 := am_of n d i2
    obtain ⟨x1, x2, x3, x4⟩ := a1
    have HA := Lib.hid (fun W => ask_impl L E n d bn bd W)
    rw [h] at HA
    have hl := Int.mul_pos (show 0 < L by omega) (show 0 < d by omega)
    have hlu := mul_le2 L d 12 12 (by omega) j2 (by omega) i3
    have e6 : 6 * L * d = 6 * (L * d) := Int.mul_assoc _ _ _
    have eM : d * 1 * 3465 = 3465 * d := by omega
    have HM := Lib.hid (fun W => mes_impl L E n d 0 1 (by omega) i3 (by omega) (by omega) W)
    have HC := Lib.hid (fun W => crumbs_impl L E (3465 * d) n d 3465 (by omega) (by omega) (by omega) (by omega) (by omega) (by omega) W)
    have HT := Lib.hid (fun W => trips_impl L E (3465 * d) (3465 * (L * d)) (3465 * n) (by rw [← Int.mul_assoc, Int.mul_comm L, Int.mul_assoc]) (by omega) (by omega) (by omega) (by omega) W)
    rw [trp_scale (L * d) n 3465 (by omega)] at HT
    rw [eM] at HM
    have hb := trp_bd (L * d) n
    obtain ⟨t, ht⟩ : ∃ t : Int, (trp (L * d) n : Int) = t := ⟨_, rfl⟩
    rw [ht] at HT ⊢
    have ht1 : 1 ≤ t := by omega
    have ht7 : t ≤ 7 := by omega
    clear hb ht i1 i2 h eM e6
    generalize 3465 * d = M at *
    go_enter Try.func54, Try.ntmps54
    (go_wp2_with fail; refine (HA.out _).mono ?_; rintro e V ⟨rfl, hb1⟩; (have ha1 : Below w.heap.size w V := by (repeat (first | with_reducible exact Below.refl _ _ | with_reducible assumption | with_reducible refine balloc ?_ _ | with_reducible refine bdrew ?_ | with_reducible refine below_drewN ?_ _ | with_reducible refine bset ?_ ?_ _ | with_reducible exact Nat.le_refl _ | with_reducible refine bsize ?_ | (dsimp only; refine Nat.le_trans ?_ (Nat.le_add_right _ _)) | with_reducible refine Nat.le_trans ?_ (Nat.le_add_right _ _) | (with_reducible refine bstep ?_ (by assumption))))); obtain ⟨kc1, kf1, kz1, ky1, kx1, kv1, ku1⟩ := bcell hb1)
    have c1 : V.cell? ⟨w.heap.size, 0, none⟩ = some (.int .i64 L) := by rw [kc1 _ _ (by simp)]; simp
    have c2 : V.cell? ⟨w.heap.size, 1, none⟩ = some (.int .i64 E) := by rw [kc1 _ _ (by simp)]; simp
    have c3 : V.cell? ⟨w.heap.size + 1, 0, none⟩ = some (.int .i64 n) := by rw [kc1 _ _ (by simp)]; simp
    have c4 : V.cell? ⟨w.heap.size + 1, 1, none⟩ = some (.int .i64 d) := by rw [kc1 _ _ (by simp)]; simp
    have a0 : w.heap.size < V.heap.size := kz1 _ (by simp)
    have a1 : w.heap.size + 1 < V.heap.size := kz1 _ (by simp)
    have av0 : ∀ k, w.heap.size < V.heap.size + k := fun k => by omega
    have av1 : ∀ k, w.heap.size + 1 < V.heap.size + k := fun k => by omega
    clear hb1 kc1 kf1 kz1 ky1 kx1 kv1 ku1
    go_upto_region 3 with fail
    go_cut [6] (fun s6 wx => ∃ g : Nat, s6 = .pointer (some ⟨g, 0, none⟩) ∧ wx.cell? ⟨g, 0, none⟩ = some (.int .i64 L) ∧ wx.cell? ⟨g, 1, none⟩ = some (.int .i64 E) ∧ wx.cell? ⟨g, 2, none⟩ = some (.int .i64 M) ∧ g < wx.heap.size ∧ Below V.heap.size V wx)
    case first =>
      go_region_held3 (fun w' => Below V.heap.size V w' ∧ w'.cell? ⟨w.heap.size, 0, none⟩ = some (.int .i64 L) ∧ w'.cell? ⟨w.heap.size, 1, none⟩ = some (.int .i64 E) ∧ w'.cell? ⟨w.heap.size + 1, 0, none⟩ = some (.int .i64 n) ∧ w'.cell? ⟨w.heap.size + 1, 1, none⟩ = some (.int .i64 d)) (((go_split_ands; (repeat' with_reducible apply And.intro) <;> first | with_reducible assumption | exact Below.refl _ _ | exact bdrew (Below.refl _ _) | with_reducible exact bdrew (by with_reducible assumption) | with_reducible exact balloc (by with_reducible assumption) _ | with_reducible exact balloc (bdrew (by with_reducible assumption)) _ | ((repeat (first | with_reducible exact Below.refl _ _ | with_reducible assumption | with_reducible refine balloc ?_ _ | with_reducible refine bdrew ?_ | with_reducible refine below_drewN ?_ _ | with_reducible refine bset ?_ ?_ _ | with_reducible exact Nat.le_refl _ | with_reducible refine bsize ?_ | (dsimp only; refine Nat.le_trans ?_ (Nat.le_add_right _ _)) | with_reducible refine Nat.le_trans ?_ (Nat.le_add_right _ _) | (with_reducible refine bstep ?_ (by assumption)))); done) | (simp [go_sem, c1, c2, c3, c4, a0, a1, av0, av1]; done) | (simp [go_sem, f1, f2, f3, f4]; done) | go_keep))) (first | (go_at_call 52; refine (whole_is_implC _ _).mono ?_; rintro e w2 ⟨rfl, rfl⟩) | (go_at_call 89; refine (HM.out _).mono ?_; rintro e w3 ⟨rfl, hb3⟩; obtain ⟨kc3, kf3, kz3, ky3, kx3, kv3, ku3⟩ := bcell hb3; go_split_ands; (have f0 := bstep (by with_reducible assumption : Below V.heap.size V _) hb3); (have f1 := keepa f0 a0 c1); (have f2 := keepa f0 a0 c2); (have f3 := keepa f0 a1 c3); (have f4 := keepa f0 a1 c4)))
      all_goals (go_wp2_with fail; go_meet)
      all_goals refine ⟨_, rfl, ?_, ?_, ?_, ?_, ?_⟩
      all_goals first | (simp [go_sem, kc3, kz3, ky3]; done) | ((repeat (first | with_reducible exact Below.refl _ _ | with_reducible assumption | with_reducible refine balloc ?_ _ | with_reducible refine bdrew ?_ | with_reducible refine below_drewN ?_ _ | with_reducible refine bset ?_ ?_ _ | with_reducible exact Nat.le_refl _ | with_reducible refine bsize ?_ | (dsimp only; refine Nat.le_trans ?_ (Nat.le_add_right _ _)) | with_reducible refine Nat.le_trans ?_ (Nat.le_add_right _ _) | (with_reducible refine bstep ?_ (by assumption)))); done) | (simp; omega)
    case rest =>
      obtain ⟨g, rfl, g0, g1, g2, gs, hgb⟩ := hcut
      have c1 := keepa hgb a0 c1
      have c2 := keepa hgb a0 c2
      have c3 := keepa hgb a1 c3
      have c4 := keepa hgb a1 c4
      have a0 : w.heap.size < wc.heap.size := Nat.lt_of_lt_of_le a0 hgb.size
      have a1 : w.heap.size + 1 < wc.heap.size := Nat.lt_of_lt_of_le a1 hgb.size
      have hac := bstep ha1 hgb
      clear hgb ha1
      go_upto_region 4 with fail
      have av0 : ∀ k, w.heap.size < wc.heap.size + k := fun k => by omega
      have av1 : ∀ k, w.heap.size + 1 < wc.heap.size + k := fun k => by omega
      go_region_held3 (fun w' => Below wc.heap.size wc w' ∧ w'.cell? ⟨g, 0, none⟩ = some (.int .i64 L) ∧ w'.cell? ⟨g, 1, none⟩ = some (.int .i64 E) ∧ w'.cell? ⟨g, 2, none⟩ = some (.int .i64 M) ∧ w'.cell? ⟨w.heap.size, 0, none⟩ = some (.int .i64 L) ∧ w'.cell? ⟨w.heap.size, 1, none⟩ = some (.int .i64 E) ∧ w'.cell? ⟨w.heap.size + 1, 0, none⟩ = some (.int .i64 n) ∧ w'.cell? ⟨w.heap.size + 1, 1, none⟩ = some (.int .i64 d)) (((go_split_ands; (repeat' with_reducible apply And.intro) <;> first | with_reducible assumption | exact Below.refl _ _ | exact bdrew (Below.refl _ _) | with_reducible exact bdrew (by with_reducible assumption) | with_reducible exact balloc (by with_reducible assumption) _ | with_reducible exact balloc (bdrew (by with_reducible assumption)) _ | ((repeat (first | with_reducible exact Below.refl _ _ | with_reducible assumption | with_reducible refine balloc ?_ _ | with_reducible refine bdrew ?_ | with_reducible refine below_drewN ?_ _ | with_reducible refine bset ?_ ?_ _ | with_reducible exact Nat.le_refl _ | with_reducible refine bsize ?_ | (dsimp only; refine Nat.le_trans ?_ (Nat.le_add_right _ _)) | with_reducible refine Nat.le_trans ?_ (Nat.le_add_right _ _) | (with_reducible refine bstep ?_ (by assumption)))); done) | (simp [go_sem, c1, c2, c3, c4, a0, a1, av0, av1]; done) | (simp [go_sem, f1, f2, f3, f4]; done) | go_keep))) (first | (go_at_call 91; refine (HC.out _).mono ?_; rintro e w3 ⟨rfl, hb3⟩; go_split_ands; (have f0 := bstep (by with_reducible assumption : Below wc.heap.size wc _) hb3); (have h1 := keepa f0 gs g0); (have h2 := keepa f0 gs g1); (have h3 := keepa f0 gs g2); (have f1 := keepa f0 a0 c1); (have f2 := keepa f0 a0 c2); (have f3 := keepa f0 a1 c3); (have f4 := keepa f0 a1 c4)) | (go_at_call 90; refine (HT.out _).mono ?_; rintro e w3 ⟨rfl, hb3⟩; go_split_ands; (have f0 := bstep (by with_reducible assumption : Below wc.heap.size wc _) hb3); (have h1 := keepa f0 gs g0); (have h2 := keepa f0 gs g1); (have h3 := keepa f0 gs g2); (have f1 := keepa f0 a0 c1); (have f2 := keepa f0 a0 c2); (have f3 := keepa f0 a1 c3); (have f4 := keepa f0 a1 c4)))
      all_goals go_wp2
      all_goals go_ret2
      all_goals refine ⟨by first | rfl | (rw [IntWalk.i64_in (z * E) (by omega)]; rfl), ?_⟩
      all_goals exact bstep hac (by with_reducible assumption)
end Go.Proofs.Ytgpbkjakmbmccaa
