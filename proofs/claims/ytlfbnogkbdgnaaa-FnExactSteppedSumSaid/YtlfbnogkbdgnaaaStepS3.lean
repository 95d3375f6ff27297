/- SteppedSum: a contract of the model. -/
import Derived.Test.YtlfbnogkbdgnaaaStep
namespace Go.Proofs.Ytlfbnogkbdgnaaa
open Go.ChangeShapes Go.WideShapes Go.ChangeAt Go.RowKit Go.Joins
set_option linter.unusedVariables false
set_option linter.unusedSimpArgs false

set_option maxHeartbeats 3200000 in
theorem step_spec_3 (n d p q k : Int) (hk : okk n d p q = true) (h0 : 0 ≤ k) (h1 : k ≤ 1000) (hB1 : lowB (n * k) d = false) (hB2 : lowB (p * (k * (k - 1) / 2)) q = true) (w : World) :
    Calls Try.prog 54 #[.agg #[.int .i64 n, .int .i64 d], .agg #[.int .i64 p, .int .i64 q], .int .i64 k] w fun e w' => e = .returned (.tuple #[.agg #[.int .i64 (0), .int .i64 (0)], .bool (false)]) ∧ Below w.heap.size w w' := by
  have hin : inB k 0 1000 = true := by simp [inB, h0, h1]
  obtain ⟨t1, t2, t3, t4⟩ := tri_bd k h0 h1
  have hk' := hk
  unfold okk at hk'
  rw [Bool.and_eq_true] at hk'
  have ca := am_of n d hk'.1
  have cb := am_of p q hk'.2
  have hid1 := Lib.hid hk'
  clear hk'
  have t6 : k ≤ 1000000000 := by omega
  go_enter Try.func54, Try.ntmps54
  (go_wp2_with fail; refine (two_spec _ _ _ _ _).mono ?_; rintro e V ⟨rfl, hb1⟩; rw [hk]; have ha1 := hb1; obtain ⟨kc1, kf1, kz1, ky1, kx1, kv1, ku1⟩ := bcell hb1)
  have hV := boxed3_later (boxed3_is w n d p q) hb1
  clear hb1 ha1 kc1 kf1 kz1 ky1 kx1 kv1 ku1
  go_upto_region 3 with (go_at_call 58; refine (in_spec _ _ _ _).mono ?_; rintro e w2 ⟨rfl, rfl⟩; rw [hin])
  go_cut [8, 9] (Res2 (lowN (n * k) d) (lowD (n * k) d) false V)
  case first =>
    obtain ⟨c1, c2, c3, c4, r1, r2, r3, r4, hs, hbw⟩ := hV
    have a0 : w.heap.size < V.heap.size := by omega
    have av : ∀ k, w.heap.size < V.heap.size + k := fun k => by omega
    go_region_held3 (fun w' => w'.cell? ⟨w.heap.size, 0, none⟩ = some (.int .i64 n) ∧ w'.cell? ⟨w.heap.size, 1, none⟩ = some (.int .i64 d)) (((repeat' apply And.intro) <;> first | (simp [go_sem, c1, c2, av, a0]; done) | (simp [go_sem, e1, s1, s2]; done) | go_keep)) (first | (go_at_call 72; refine (whole_is_spec _ _).mono ?_; rintro e w1 ⟨rfl, rfl⟩) | (go_at_call 67; refine (times1_spec _ _ _ ca h0 t6 _).mono ?_; rintro e w3 ⟨rfl, hb3⟩; obtain ⟨kc3, kf3, kz3, ky3, kx3, kv3, ku3⟩ := bcell hb3; (have e1 := kz3 (w.heap.size) (by first | (simp; done) | (simp; (try clear wq1); (try clear wq2); (try clear wq3); (try clear wq4); omega))); go_split_ands; (have s1 := (kc3 (w.heap.size) 0 (by first | (simp; done) | (simp; (try clear wq1); (try clear wq2); (try clear wq3); (try clear wq4); omega))).trans (by assumption)); (have s2 := (kc3 (w.heap.size) 1 (by first | (simp; done) | (simp; (try clear wq1); (try clear wq2); (try clear wq3); (try clear wq4); omega))).trans (by assumption))))
    all_goals (try clear wq1)
    all_goals (try clear wq2)
    all_goals (try clear wq3)
    all_goals (try clear wq4)
    all_goals (go_wp2_with fail; go_meet)
    all_goals refine ⟨_, rfl, rfl, ?_, ?_, ?_, ?_⟩
    all_goals first | ((repeat (first | exact Below.refl _ _ | assumption | refine balloc ?_ _ | refine bdrew ?_ | refine bset ?_ ?_ _ | exact Nat.le_refl _ | refine bsize ?_ | (dsimp only; refine Nat.le_trans ?_ (Nat.le_add_right _ _)) | refine Nat.le_trans ?_ (Nat.le_add_right _ _) | (refine bstep ?_ (by assumption)))); done) | (simp [go_sem, kc3, kz3, ky3]; done) | (simp; omega)
  case rest =>
    obtain ⟨g, rfl, rfl, hg0, hg1, hgs, hgb⟩ := hcut
    have hV2 := boxed3_later hV hgb
    clear hV
    generalize wc = V2 at *
    go_upto_region 4 with fail
    go_cut [10, 11] (Res2 (lowN (p * (k * (k - 1) / 2)) q) (lowD (p * (k * (k - 1) / 2)) q) true V2)
    case first =>
      clear hg0 hg1 hgs hgb
      obtain ⟨d1, d2, c1, c2, r1, r2, r3, r4, hs, hbw⟩ := hV2
      have a0 : w.heap.size + 1 < V2.heap.size := by omega
      have av : ∀ k, w.heap.size + 1 < V2.heap.size + k := fun k => by omega
      have t5 : k * (k - 1) / 2 ≤ 1000000000 := by omega
      have wq1 : IntKind.i64.wrap (k - 1) = k - 1 := IntWalk.i64_in _ (by omega)
      have wq2 : IntKind.i64.wrap (k * (k - 1)) = k * (k - 1) := IntWalk.i64_in _ (by clear wq1; omega)
      have wq3 : Int.tdiv (k * (k - 1)) 2 = k * (k - 1) / 2 := Int.tdiv_eq_ediv_of_nonneg t3
      have wq4 : IntKind.i64.wrap (k * (k - 1) / 2) = k * (k - 1) / 2 := IntWalk.i64_in _ (by clear wq1 wq2 wq3; omega)

      go_region_held3 (fun w' => w'.cell? ⟨w.heap.size + 1, 0, none⟩ = some (.int .i64 p) ∧ w'.cell? ⟨w.heap.size + 1, 1, none⟩ = some (.int .i64 q)) (((repeat' apply And.intro) <;> first | (simp [go_sem, c1, c2, av, a0]; done) | (simp [go_sem, e1, s1, s2]; done) | go_keep)) (first | (go_at_call 72; refine (whole_is_spec _ _).mono ?_; rintro e w1 ⟨rfl, rfl⟩) | (go_at_call 67; refine (times1_spec p q (k * (k - 1) / 2) cb t1 t5 _).mono ?_; rintro e w3 ⟨rfl, hb3⟩; obtain ⟨kc3, kf3, kz3, ky3, kx3, kv3, ku3⟩ := bcell hb3; (have e1 := kz3 (w.heap.size + 1) (by first | (simp; done) | (simp; (try clear wq1); (try clear wq2); (try clear wq3); (try clear wq4); omega))); go_split_ands; (have s1 := (kc3 (w.heap.size + 1) 0 (by first | (simp; done) | (simp; (try clear wq1); (try clear wq2); (try clear wq3); (try clear wq4); omega))).trans (by assumption)); (have s2 := (kc3 (w.heap.size + 1) 1 (by first | (simp; done) | (simp; (try clear wq1); (try clear wq2); (try clear wq3); (try clear wq4); omega))).trans (by assumption))))
      all_goals (try clear wq1)
      all_goals (try clear wq2)
      all_goals (try clear wq3)
      all_goals (try clear wq4)
      all_goals (go_wp2_with fail; go_meet)
      all_goals refine ⟨_, rfl, rfl, ?_, ?_, ?_, ?_⟩
      all_goals first | ((repeat (first | exact Below.refl _ _ | assumption | refine balloc ?_ _ | refine bdrew ?_ | refine bset ?_ ?_ _ | exact Nat.le_refl _ | refine bsize ?_ | (dsimp only; refine Nat.le_trans ?_ (Nat.le_add_right _ _)) | refine Nat.le_trans ?_ (Nat.le_add_right _ _) | (refine bstep ?_ (by assumption)))); done) | (simp [go_sem, kc3, kz3, ky3]; done) | (simp; omega)
    case rest =>
      obtain ⟨g2, rfl, rfl, hh0, hh1, hhs, hhb⟩ := hcut
      have hg0' := keepa hhb hgs hg0
      have hg1' := keepa hhb hgs hg1
      have hV' := boxed3_later hV2 hhb
      clear hg0 hg1 hgs hgb hV2 hhb
      obtain ⟨c1, c2, c3, c4, r1, r2, r3, r4, hs, hbw⟩ := hV'
      go_wp2
      refine bodyPost_ret (v := .tuple #[.agg #[.int .i64 (0), .int .i64 (0)], .bool (false)]) (by simp only [results, Try.results54]; go_simp) rfl ⟨rfl, ?_⟩
      (repeat (first | exact Below.refl _ _ | assumption | refine balloc ?_ _ | refine bdrew ?_ | refine bset ?_ ?_ _ | exact Nat.le_refl _ | refine bsize ?_ | (dsimp only; refine Nat.le_trans ?_ (Nat.le_add_right _ _)) | refine Nat.le_trans ?_ (Nat.le_add_right _ _) | (refine bstep ?_ (by assumption))))

end Go.Proofs.Ytlfbnogkbdgnaaa
