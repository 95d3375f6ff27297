/- Contracts of SteppedSum on both sides. -/
import Derived.Test.YtlfbnogkbdgnaaaLawBase
import Derived.Test.YtlfbnogkbdgnaaaReck1
import Derived.Test.YtlfbnogkbdgnaaaReck3
import Derived.Test.YtlfbnogkbdgnaaaPubS1
import Derived.Test.YtlfbnogkbdgnaaaPubS3
import Derived.IntWalk
namespace Go.Proofs.Ytlfbnogkbdgnaaa
open Go.RowKit
set_option linter.unusedVariables false
set_option linter.unusedSimpArgs false

theorem am_whole (k : Int) (h0 : 0 ≤ k) (h1 : k ≤ 1000000000) : amB k 1 = true := by
  rw [amB_iff]; refine ⟨h0, h1, by omega, by omega, ?_⟩
  unfold gi; rw [Int.gcd_one_right]; rfl
theorem whole_is_spec (k : Int) (w : World) :
    Calls Try.prog 72 #[.int .i64 k] w fun e w' => e = .returned (.agg #[.int .i64 k, .int .i64 1]) ∧ w.alloc (.cells #[.int .i64 k, .int .i64 1] 25) = w' := by
  go_enter Try.func72, Try.ntmps72
  go_wp2
  exact bodyPost_ret (v := .agg #[.int .i64 k, .int .i64 1]) (by simp [results, Try.results72, go_sem]) rfl ⟨rfl, rfl⟩
theorem whole_is_impl (k : Int) (w : World) :
    Calls Try.prog 73 #[.int .i64 k] w fun e w' => e = .returned (.agg #[.int .i64 k, .int .i64 1]) ∧ w.alloc (.cells #[.int .i64 k, .int .i64 1] 25) = w' := by
  go_enter Try.func73, Try.ntmps73
  go_wp2
  exact bodyPost_ret (v := .agg #[.int .i64 k, .int .i64 1]) (by simp [results, Try.results73, go_sem]) rfl ⟨rfl, rfl⟩
/-- TimesAmount by a whole number. -/
theorem times1_impl (n d k : Int) (bn : -9223372036854775808 ≤ n ∧ n ≤ 9223372036854775807) (bd : -9223372036854775808 ≤ d ∧ d ≤ 9223372036854775807) (h0 : 0 ≤ k) (h1 : k ≤ 1000000000) (w : World) :
    Calls Try.prog 29 #[.agg #[.int .i64 n, .int .i64 d], .agg #[.int .i64 k, .int .i64 1]] w fun e w' => e = .returned (.tuple #[.agg #[.int .i64 (twoN (amB n d) (n * k) d), .int .i64 (twoD (amB n d) (n * k) d)], .bool (twoB (amB n d) (n * k) d)]) ∧ Below w.heap.size w w' := by
  have h := times_pub_impl n d k 1 bn bd (by omega) (by omega) w
  have e : okk n d k 1 = amB n d := by simp [okk, am_whole k h0 h1]
  rw [e] at h
  simpa only [Int.mul_one] using h
theorem times1_spec (n d k : Int) (ha : Am n d) (h0 : 0 ≤ k) (h1 : k ≤ 1000000000) (w : World) :
    Calls Try.prog 67 #[.agg #[.int .i64 n, .int .i64 d], .agg #[.int .i64 k, .int .i64 1]] w fun e w' => e = .returned (.tuple #[.agg #[.int .i64 (lowN (n * k) d), .int .i64 (lowD (n * k) d)], .bool (lowB (n * k) d)]) ∧ Below w.heap.size w w' := by
  have h := amTimes_spec n d k 1 ha (am_of k 1 (am_whole k h0 h1)) w
  simpa only [Int.mul_one] using h

/-- n (n - 1) / 2 -/
abbrev tri (k : Int) : Int := k * (k - 1) / 2
theorem tri_bd (k : Int) (h0 : 0 ≤ k) (h1 : k ≤ 1000) : 0 ≤ tri k ∧ tri k ≤ 499500 ∧ 0 ≤ k * (k - 1) ∧ k * (k - 1) ≤ 999000 := by
  have h : 0 ≤ k * (k - 1) ∧ k * (k - 1) ≤ 999000 := by
    by_cases hk : k = 0
    · subst hk; omega
    · exact ⟨Int.mul_nonneg h0 (by omega), Int.le_trans (Int.mul_le_mul h1 (show k - 1 ≤ 999 by omega) (by omega) (by omega)) (by omega)⟩
  unfold tri; omega

/-- Can the sum be made? -/
def stK (n d p q k : Int) : Bool := inB k 0 1000 && (amB n d && lowB (n * k) d) && (amB p q && lowB (p * tri k) q)
def stX (n d k : Int) : Int := lowN (n * k) d
def stY (n d k : Int) : Int := lowD (n * k) d
def stN (n d p q k : Int) : Int := stX n d k * stY p q (tri k) + stX p q (tri k) * stY n d k
def stD (n d p q k : Int) : Int := stY n d k * stY p q (tri k)

/-- Two boxed parameters and the variable of the result. -/
def boxed3 (w : World) (n d p q : Int) : World := ((w.alloc (.cells #[.int .i64 n, .int .i64 d] 25)).alloc (.cells #[.int .i64 p, .int .i64 q] 25)).alloc (.cells #[.int .i64 0, .int .i64 0] 25)
structure Boxed3 (w V : World) (n d p q : Int) : Prop where
  c1 : V.cell? ⟨w.heap.size, 0, none⟩ = some (.int .i64 n)
  c2 : V.cell? ⟨w.heap.size, 1, none⟩ = some (.int .i64 d)
  c3 : V.cell? ⟨w.heap.size + 1, 0, none⟩ = some (.int .i64 p)
  c4 : V.cell? ⟨w.heap.size + 1, 1, none⟩ = some (.int .i64 q)
  r1 : V.cell? ⟨w.heap.size + 1 + 1, 0, none⟩ = some (.int .i64 0)
  r2 : V.cell? ⟨w.heap.size + 1 + 1, 1, none⟩ = some (.int .i64 0)
  r3 : V.frozen? ⟨w.heap.size + 1 + 1, 0, none⟩ = false
  r4 : V.frozen? ⟨w.heap.size + 1 + 1, 1, none⟩ = false
  hs : w.heap.size + 1 + 1 < V.heap.size
  below : Below w.heap.size w V
theorem boxed3_is (w : World) (n d p q : Int) : Boxed3 w (boxed3 w n d p q) n d p q := by
  unfold boxed3
  refine ⟨by simp [go_sem], by simp [go_sem], by simp [go_sem], by simp [go_sem], by simp [go_sem], by simp [go_sem], by simp [go_sem], by simp [go_sem], by simp, ?_⟩
  (repeat (first | exact Below.refl _ _ | assumption | refine balloc ?_ _ | refine bdrew ?_ | refine bset ?_ ?_ _ | exact Nat.le_refl _ | refine bsize ?_ | (dsimp only; refine Nat.le_trans ?_ (Nat.le_add_right _ _)) | refine Nat.le_trans ?_ (Nat.le_add_right _ _) | (refine bstep ?_ (by assumption))))
theorem keepf {W0 wp : World} {b o : Nat} {v : Bool} (h0 : Below W0.heap.size W0 wp) (hlt : b < W0.heap.size) (hc : W0.frozen? ⟨b, o, none⟩ = v) : wp.frozen? ⟨b, o, none⟩ = v := by
  rw [h0.frozen (p := ⟨b, o, none⟩) hlt]; exact hc
theorem boxed3_later {w V V' : World} {n d p q : Int} (h : Boxed3 w V n d p q) (hb : Below V.heap.size V V') : Boxed3 w V' n d p q :=
  ⟨keepa hb (by have := h.hs; omega) h.c1, keepa hb (by have := h.hs; omega) h.c2, keepa hb (by have := h.hs; omega) h.c3, keepa hb (by have := h.hs; omega) h.c4, keepa hb h.hs h.r1, keepa hb h.hs h.r2, keepf hb h.hs h.r3, keepf hb h.hs h.r4, Nat.lt_of_lt_of_le h.hs hb.size, bstep h.below hb⟩

theorem stK_1 (n d p q k : Int) (h : twoB (amB n d) (n * k) d = false) : stK n d p q k = false := by
  unfold twoB at h; simp [stK, h]
theorem stK_2 (n d p q k : Int) (h : twoB (amB p q) (p * tri k) q = false) : stK n d p q k = false := by
  unfold twoB at h; simp [stK, h]
theorem stK_3 (n d p q k : Int) (h1 : twoB (amB n d) (n * k) d = true) (h2 : twoB (amB p q) (p * tri k) q = true) (h3 : inB k 0 1000 = true) : stK n d p q k = true ∧
    twoN (amB n d) (n * k) d = stX n d k ∧ twoD (amB n d) (n * k) d = stY n d k ∧ twoN (amB p q) (p * tri k) q = stX p q (tri k) ∧ twoD (amB p q) (p * tri k) q = stY p q (tri k) ∧ amB (stX n d k) (stY n d k) = true ∧ amB (stX p q (tri k)) (stY p q (tri k)) = true := by
  unfold twoB at h1 h2
  have a := (Bool.and_eq_true _ _ ▸ h1 : _ ∧ _)
  have b := (Bool.and_eq_true _ _ ▸ h2 : _ ∧ _)
  refine ⟨by simp [stK, h3, h1, h2], by simp [twoN, stX, a.1], by simp [twoD, stY, a.1], by simp [twoN, stX, b.1], by simp [twoD, stY, b.1], amB_low _ _ a.2, amB_low _ _ b.2⟩

theorem add_ok_impl (n d p q : Int) (h1 : amB n d = true) (h2 : amB p q = true) (w : World) :
    Calls Try.prog 25 #[.agg #[.int .i64 n, .int .i64 d], .agg #[.int .i64 p, .int .i64 q]] w fun e w' => e = .returned (.tuple #[.agg #[.int .i64 (lowN (n * q + p * d) (d * q)), .int .i64 (lowD (n * q + p * d) (d * q))], .bool (lowB (n * q + p * d) (d * q))]) ∧ Below w.heap.size w w' := by
  have am1 := am_of _ _ h1
  have am2 := am_of _ _ h2
  have h := plus_pub_impl n d p q (by have := am1.a; have := am1.b; omega) (by have := am1.c; have := am1.d; omega) (by have := am2.a; have := am2.b; omega) (by have := am2.c; have := am2.d; omega) w
  have hk : okk n d p q = true := by simp [okk, h1, h2]
  obtain ⟨e1, e2, e3⟩ := two_yes (n * q + p * d) (d * q)
  rw [hk, e1, e2, e3] at h
  exact h

set_option maxHeartbeats 1600000 in
theorem step_impl_1 (n d : Int) (bn : -9223372036854775808 ≤ n ∧ n ≤ 9223372036854775807) (bd : -9223372036854775808 ≤ d ∧ d ≤ 9223372036854775807) (p q : Int) (bp : -9223372036854775808 ≤ p ∧ p ≤ 9223372036854775807) (bq : -9223372036854775808 ≤ q ∧ q ≤ 9223372036854775807) (k : Int) (h0 : 0 ≤ k) (h1 : k ≤ 1000) (hB1 : twoB (amB n d) (n * k) d = false) (w : World) :
    Calls Try.prog 55 #[.agg #[.int .i64 n, .int .i64 d], .agg #[.int .i64 p, .int .i64 q], .int .i64 k] w fun e w' => e = .returned (.tuple #[.agg #[.int .i64 (0), .int .i64 (0)], .bool (false)]) ∧ Below w.heap.size w w' := by
  have hin : inB k 0 1000 = true := by simp [inB, h0, h1]
  go_enter Try.func55, Try.ntmps55
  go_upto_region 3 with (go_at_call 60; refine (in_impl _ _ _ _).mono ?_; rintro e w1 ⟨rfl, rfl⟩; rw [hin])
  go_cut [8, 9] (Res2 (twoN (amB n d) (n * k) d) (twoD (amB n d) (n * k) d) false (boxed3 w n d p q))
  case first =>
    have hV := boxed3_is w n d p q
    change Code.wp _ _ _ _ (boxed3 w n d p q)
    generalize boxed3 w n d p q = V at *
    obtain ⟨c1, c2, c3, c4, r1, r2, r3, r4, hs, hbw⟩ := hV
    have a0 : w.heap.size < V.heap.size := by omega
    have av : ∀ k, w.heap.size < V.heap.size + k := fun k => by omega
    go_region_held3 (fun w' => w'.cell? ⟨w.heap.size, 0, none⟩ = some (.int .i64 n) ∧ w'.cell? ⟨w.heap.size, 1, none⟩ = some (.int .i64 d)) (((repeat' apply And.intro) <;> first | (simp [go_sem, c1, c2, av, a0]; done) | (simp [go_sem, e1, s1, s2]; done) | go_keep)) (first | (go_at_call 73; refine (whole_is_impl _ _).mono ?_; rintro e w1 ⟨rfl, rfl⟩) | (go_at_call 29; refine (times1_impl _ _ _ bn bd (by omega) (by omega) _).mono ?_; rintro e w3 ⟨rfl, hb3⟩; obtain ⟨kc3, kf3, kz3, ky3, kx3, kv3, ku3⟩ := bcell hb3; (have e1 := kz3 (w.heap.size) (by first | (simp; done) | (simp; (try clear wq1); (try clear wq2); (try clear wq3); (try clear wq4); omega))); go_split_ands; (have s1 := (kc3 (w.heap.size) 0 (by first | (simp; done) | (simp; (try clear wq1); (try clear wq2); (try clear wq3); (try clear wq4); omega))).trans (by assumption)); (have s2 := (kc3 (w.heap.size) 1 (by first | (simp; done) | (simp; (try clear wq1); (try clear wq2); (try clear wq3); (try clear wq4); omega))).trans (by assumption))))
    all_goals (try clear wq1)
    all_goals (try clear wq2)
    all_goals (try clear wq3)
    all_goals (try clear wq4)
    all_goals (go_wp2_with fail; go_meet)
    all_goals refine ⟨_, rfl, rfl, ?_, ?_, ?_, ?_⟩
    all_goals first | ((repeat (first | exact Below.refl _ _ | assumption | refine balloc ?_ _ | refine bdrew ?_ | refine bset ?_ ?_ _ | exact Nat.le_refl _ | refine bsize ?_ | (dsimp only; refine Nat.le_trans ?_ (Nat.le_add_right _ _)) | refine Nat.le_trans ?_ (Nat.le_add_right _ _) | (refine bstep ?_ (by assumption)))); done) | (simp [go_sem, kc3, kz3, ky3]; done) | (simp; omega)
  case rest =>
    obtain ⟨g, rfl, rfl, hg0, hg1, hgs, hgb⟩ := hcut
    have hV := boxed3_later (boxed3_is w n d p q) hgb
    generalize boxed3 w n d p q = V0 at *
    generalize wc = V at *
    obtain ⟨c1, c2, c3, c4, r1, r2, r3, r4, hs, hbw⟩ := hV
    clear hg0 hg1 hgb hgs
    go_wp2
    refine bodyPost_ret (v := .tuple #[.agg #[.int .i64 (0), .int .i64 (0)], .bool (false)]) (by simp only [results, Try.results55]; go_simp) rfl ⟨rfl, ?_⟩
    (repeat (first | exact Below.refl _ _ | assumption | refine balloc ?_ _ | refine bdrew ?_ | refine bset ?_ ?_ _ | exact Nat.le_refl _ | refine bsize ?_ | (dsimp only; refine Nat.le_trans ?_ (Nat.le_add_right _ _)) | refine Nat.le_trans ?_ (Nat.le_add_right _ _) | (refine bstep ?_ (by assumption))))

set_option maxHeartbeats 1600000 in
theorem step_impl_2 (n d : Int) (bn : -9223372036854775808 ≤ n ∧ n ≤ 9223372036854775807) (bd : -9223372036854775808 ≤ d ∧ d ≤ 9223372036854775807) (p q : Int) (bp : -9223372036854775808 ≤ p ∧ p ≤ 9223372036854775807) (bq : -9223372036854775808 ≤ q ∧ q ≤ 9223372036854775807) (k : Int) (h0 : 0 ≤ k) (h1 : k ≤ 1000) (hB1 : twoB (amB n d) (n * k) d = true) (hB2 : twoB (amB p q) (p * (k * (k - 1) / 2)) q = false) (w : World) :
    Calls Try.prog 55 #[.agg #[.int .i64 n, .int .i64 d], .agg #[.int .i64 p, .int .i64 q], .int .i64 k] w fun e w' => e = .returned (.tuple #[.agg #[.int .i64 (0), .int .i64 (0)], .bool (false)]) ∧ Below w.heap.size w w' := by
  have hin : inB k 0 1000 = true := by simp [inB, h0, h1]
  obtain ⟨t1, t2, t3, t4⟩ := tri_bd k h0 h1
  go_enter Try.func55, Try.ntmps55
  go_upto_region 3 with (go_at_call 60; refine (in_impl _ _ _ _).mono ?_; rintro e w1 ⟨rfl, rfl⟩; rw [hin])
  go_cut [8, 9] (Res2 (twoN (amB n d) (n * k) d) (twoD (amB n d) (n * k) d) true (boxed3 w n d p q))
  case first =>
    have hV := boxed3_is w n d p q
    change Code.wp _ _ _ _ (boxed3 w n d p q)
    generalize boxed3 w n d p q = V at *
    obtain ⟨c1, c2, c3, c4, r1, r2, r3, r4, hs, hbw⟩ := hV
    have a0 : w.heap.size < V.heap.size := by omega
    have av : ∀ k, w.heap.size < V.heap.size + k := fun k => by omega
    go_region_held3 (fun w' => w'.cell? ⟨w.heap.size, 0, none⟩ = some (.int .i64 n) ∧ w'.cell? ⟨w.heap.size, 1, none⟩ = some (.int .i64 d)) (((repeat' apply And.intro) <;> first | (simp [go_sem, c1, c2, av, a0]; done) | (simp [go_sem, e1, s1, s2]; done) | go_keep)) (first | (go_at_call 73; refine (whole_is_impl _ _).mono ?_; rintro e w1 ⟨rfl, rfl⟩) | (go_at_call 29; refine (times1_impl _ _ _ bn bd (by omega) (by omega) _).mono ?_; rintro e w3 ⟨rfl, hb3⟩; obtain ⟨kc3, kf3, kz3, ky3, kx3, kv3, ku3⟩ := bcell hb3; (have e1 := kz3 (w.heap.size) (by first | (simp; done) | (simp; (try clear wq1); (try clear wq2); (try clear wq3); (try clear wq4); omega))); go_split_ands; (have s1 := (kc3 (w.heap.size) 0 (by first | (simp; done) | (simp; (try clear wq1); (try clear wq2); (try clear wq3); (try clear wq4); omega))).trans (by assumption)); (have s2 := (kc3 (w.heap.size) 1 (by first | (simp; done) | (simp; (try clear wq1); (try clear wq2); (try clear wq3); (try clear wq4); omega))).trans (by assumption))))
    all_goals (try clear wq1)
    all_goals (try clear wq2)
    all_goals (try clear wq3)
    all_goals (try clear wq4)
    all_goals (go_wp2_with fail; go_meet)
    all_goals refine ⟨_, rfl, rfl, ?_, ?_, ?_, ?_⟩
    all_goals first | ((repeat (first | exact Below.refl _ _ | assumption | refine balloc ?_ _ | refine bdrew ?_ | refine bset ?_ ?_ _ | exact Nat.le_refl _ | refine bsize ?_ | (dsimp only; refine Nat.le_trans ?_ (Nat.le_add_right _ _)) | refine Nat.le_trans ?_ (Nat.le_add_right _ _) | (refine bstep ?_ (by assumption)))); done) | (simp [go_sem, kc3, kz3, ky3]; done) | (simp; omega)
  case rest =>
    obtain ⟨g, rfl, rfl, hg0, hg1, hgs, hgb⟩ := hcut
    have hV := boxed3_later (boxed3_is w n d p q) hgb
    generalize boxed3 w n d p q = V0 at *
    generalize wc = V at *
    go_upto_region 6 with fail
    go_cut [10, 9] (Res2 (twoN (amB p q) (p * (k * (k - 1) / 2)) q) (twoD (amB p q) (p * (k * (k - 1) / 2)) q) false V)
    case first =>
      clear hg0 hg1 hgs hgb
      obtain ⟨d1, d2, c1, c2, r1, r2, r3, r4, hs, hbw⟩ := hV
      have a0 : w.heap.size + 1 < V.heap.size := by omega
      have av : ∀ k, w.heap.size + 1 < V.heap.size + k := fun k => by omega
      have t5 : k * (k - 1) / 2 ≤ 1000000000 := by omega
      have wq1 : IntKind.i64.wrap (k - 1) = k - 1 := IntWalk.i64_in _ (by omega)
      have wq2 : IntKind.i64.wrap (k * (k - 1)) = k * (k - 1) := IntWalk.i64_in _ (by clear wq1; omega)
      have wq3 : Int.tdiv (k * (k - 1)) 2 = k * (k - 1) / 2 := Int.tdiv_eq_ediv_of_nonneg t3
      have wq4 : IntKind.i64.wrap (k * (k - 1) / 2) = k * (k - 1) / 2 := IntWalk.i64_in _ (by clear wq1 wq2 wq3; omega)
      go_region_held3 (fun w' => w'.cell? ⟨w.heap.size + 1, 0, none⟩ = some (.int .i64 p) ∧ w'.cell? ⟨w.heap.size + 1, 1, none⟩ = some (.int .i64 q)) (((repeat' apply And.intro) <;> first | (simp [go_sem, c1, c2, av, a0]; done) | (simp [go_sem, e1, s1, s2]; done) | go_keep)) (first | (go_at_call 73; refine (whole_is_impl _ _).mono ?_; rintro e w1 ⟨rfl, rfl⟩) | (go_at_call 29; refine (times1_impl p q (k * (k - 1) / 2) bp bq t1 t5 _).mono ?_; rintro e w3 ⟨rfl, hb3⟩; obtain ⟨kc3, kf3, kz3, ky3, kx3, kv3, ku3⟩ := bcell hb3; (have e1 := kz3 (w.heap.size + 1) (by first | (simp; done) | (simp; (try clear wq1); (try clear wq2); (try clear wq3); (try clear wq4); omega))); go_split_ands; (have s1 := (kc3 (w.heap.size + 1) 0 (by first | (simp; done) | (simp; (try clear wq1); (try clear wq2); (try clear wq3); (try clear wq4); omega))).trans (by assumption)); (have s2 := (kc3 (w.heap.size + 1) 1 (by first | (simp; done) | (simp; (try clear wq1); (try clear wq2); (try clear wq3); (try clear wq4); omega))).trans (by assumption))))
      all_goals (try clear wq1)
      all_goals (try clear wq2)
      all_goals (try clear wq3)
      all_goals (try clear wq4)
      all_goals (go_wp2_with fail; go_meet)
      all_goals refine ⟨_, rfl, rfl, ?_, ?_, ?_, ?_⟩
      all_goals first | ((repeat (first | exact Below.refl _ _ | assumption | refine balloc ?_ _ | refine bdrew ?_ | refine bset ?_ ?_ _ | exact Nat.le_refl _ | refine bsize ?_ | (dsimp only; refine Nat.le_trans ?_ (Nat.le_add_right _ _)) | refine Nat.le_trans ?_ (Nat.le_add_right _ _) | (refine bstep ?_ (by assumption)))); done) | (simp [go_sem, kc3, kz3, ky3]; done) | (simp; omega)
    case rest =>
      obtain ⟨g2, rfl, rfl, hh0, hh1, hhs, hhb⟩ := hcut
      have hg0' := keepa hhb hgs hg0
      have hg1' := keepa hhb hgs hg1
      have hV' := boxed3_later hV hhb
      clear hg0 hg1 hgs hgb hV hhb
      obtain ⟨c1, c2, c3, c4, r1, r2, r3, r4, hs, hbw⟩ := hV'
      go_wp2
      refine bodyPost_ret (v := .tuple #[.agg #[.int .i64 (0), .int .i64 (0)], .bool (false)]) (by simp only [results, Try.results55]; go_simp) rfl ⟨rfl, ?_⟩
      (repeat (first | exact Below.refl _ _ | assumption | refine balloc ?_ _ | refine bdrew ?_ | refine bset ?_ ?_ _ | exact Nat.le_refl _ | refine bsize ?_ | (dsimp only; refine Nat.le_trans ?_ (Nat.le_add_right _ _)) | refine Nat.le_trans ?_ (Nat.le_add_right _ _) | (refine bstep ?_ (by assumption))))

set_option maxHeartbeats 3200000 in
theorem step_impl_3 (n d : Int) (bn : -9223372036854775808 ≤ n ∧ n ≤ 9223372036854775807) (bd : -9223372036854775808 ≤ d ∧ d ≤ 9223372036854775807) (p q : Int) (bp : -9223372036854775808 ≤ p ∧ p ≤ 9223372036854775807) (bq : -9223372036854775808 ≤ q ∧ q ≤ 9223372036854775807) (k : Int) (h0 : 0 ≤ k) (h1 : k ≤ 1000) (hB1 : twoB (amB n d) (n * k) d = true) (hB2 : twoB (amB p q) (p * (k * (k - 1) / 2)) q = true) (w : World) :
    Calls Try.prog 55 #[.agg #[.int .i64 n, .int .i64 d], .agg #[.int .i64 p, .int .i64 q], .int .i64 k] w fun e w' => e = .returned (.tuple #[.agg #[.int .i64 (lowN (stX n d k * stY p q (k * (k - 1) / 2) + stX p q (k * (k - 1) / 2) * stY n d k) (stY n d k * stY p q (k * (k - 1) / 2))), .int .i64 (lowD (stX n d k * stY p q (k * (k - 1) / 2) + stX p q (k * (k - 1) / 2) * stY n d k) (stY n d k * stY p q (k * (k - 1) / 2)))], .bool (lowB (stX n d k * stY p q (k * (k - 1) / 2) + stX p q (k * (k - 1) / 2) * stY n d k) (stY n d k * stY p q (k * (k - 1) / 2)))]) ∧ Below w.heap.size w w' := by
  have hin : inB k 0 1000 = true := by simp [inB, h0, h1]
  obtain ⟨t1, t2, t3, t4⟩ := tri_bd k h0 h1
  go_enter Try.func55, Try.ntmps55
  go_upto_region 3 with (go_at_call 60; refine (in_impl _ _ _ _).mono ?_; rintro e w1 ⟨rfl, rfl⟩; rw [hin])
  go_cut [8, 9] (Res2 (twoN (amB n d) (n * k) d) (twoD (amB n d) (n * k) d) true (boxed3 w n d p q))
  case first =>
    have hV := boxed3_is w n d p q
    change Code.wp _ _ _ _ (boxed3 w n d p q)
    generalize boxed3 w n d p q = V at *
    obtain ⟨c1, c2, c3, c4, r1, r2, r3, r4, hs, hbw⟩ := hV
    have a0 : w.heap.size < V.heap.size := by omega
    have av : ∀ k, w.heap.size < V.heap.size + k := fun k => by omega
    go_region_held3 (fun w' => w'.cell? ⟨w.heap.size, 0, none⟩ = some (.int .i64 n) ∧ w'.cell? ⟨w.heap.size, 1, none⟩ = some (.int .i64 d)) (((repeat' apply And.intro) <;> first | (simp [go_sem, c1, c2, av, a0]; done) | (simp [go_sem, e1, s1, s2]; done) | go_keep)) (first | (go_at_call 73; refine (whole_is_impl _ _).mono ?_; rintro e w1 ⟨rfl, rfl⟩) | (go_at_call 29; refine (times1_impl _ _ _ bn bd (by omega) (by omega) _).mono ?_; rintro e w3 ⟨rfl, hb3⟩; obtain ⟨kc3, kf3, kz3, ky3, kx3, kv3, ku3⟩ := bcell hb3; (have e1 := kz3 (w.heap.size) (by first | (simp; done) | (simp; (try clear wq1); (try clear wq2); (try clear wq3); (try clear wq4); omega))); go_split_ands; (have s1 := (kc3 (w.heap.size) 0 (by first | (simp; done) | (simp; (try clear wq1); (try clear wq2); (try clear wq3); (try clear wq4); omega))).trans (by assumption)); (have s2 := (kc3 (w.heap.size) 1 (by first | (simp; done) | (simp; (try clear wq1); (try clear wq2); (try clear wq3); (try clear wq4); omega))).trans (by assumption))))
    all_goals (try clear wq1)
    all_goals (try clear wq2)
    all_goals (try clear wq3)
    all_goals (try clear wq4)
    all_goals (go_wp2_with fail; go_meet)
    all_goals refine ⟨_, rfl, rfl, ?_, ?_, ?_, ?_⟩
    all_goals first | ((repeat (first | exact Below.refl _ _ | assumption | refine balloc ?_ _ | refine bdrew ?_ | refine bset ?_ ?_ _ | exact Nat.le_refl _ | refine bsize ?_ | (dsimp only; refine Nat.le_trans ?_ (Nat.le_add_right _ _)) | refine Nat.le_trans ?_ (Nat.le_add_right _ _) | (refine bstep ?_ (by assumption)))); done) | (simp [go_sem, kc3, kz3, ky3]; done) | (simp; omega)
  case rest =>
    obtain ⟨g, rfl, rfl, hg0, hg1, hgs, hgb⟩ := hcut
    have hV := boxed3_later (boxed3_is w n d p q) hgb
    generalize boxed3 w n d p q = V0 at *
    generalize wc = V at *
    go_upto_region 6 with fail
    go_cut [10, 9] (Res2 (twoN (amB p q) (p * (k * (k - 1) / 2)) q) (twoD (amB p q) (p * (k * (k - 1) / 2)) q) true V)
    case first =>
      clear hg0 hg1 hgs hgb
      obtain ⟨d1, d2, c1, c2, r1, r2, r3, r4, hs, hbw⟩ := hV
      have a0 : w.heap.size + 1 < V.heap.size := by omega
      have av : ∀ k, w.heap.size + 1 < V.heap.size + k := fun k => by omega
      have t5 : k * (k - 1) / 2 ≤ 1000000000 := by omega
      have wq1 : IntKind.i64.wrap (k - 1) = k - 1 := IntWalk.i64_in _ (by omega)
      have wq2 : IntKind.i64.wrap (k * (k - 1)) = k * (k - 1) := IntWalk.i64_in _ (by clear wq1; omega)
      have wq3 : Int.tdiv (k * (k - 1)) 2 = k * (k - 1) / 2 := Int.tdiv_eq_ediv_of_nonneg t3
      have wq4 : IntKind.i64.wrap (k * (k - 1) / 2) = k * (k - 1) / 2 := IntWalk.i64_in _ (by clear wq1 wq2 wq3; omega)
      go_region_held3 (fun w' => w'.cell? ⟨w.heap.size + 1, 0, none⟩ = some (.int .i64 p) ∧ w'.cell? ⟨w.heap.size + 1, 1, none⟩ = some (.int .i64 q)) (((repeat' apply And.intro) <;> first | (simp [go_sem, c1, c2, av, a0]; done) | (simp [go_sem, e1, s1, s2]; done) | go_keep)) (first | (go_at_call 73; refine (whole_is_impl _ _).mono ?_; rintro e w1 ⟨rfl, rfl⟩) | (go_at_call 29; refine (times1_impl p q (k * (k - 1) / 2) bp bq t1 t5 _).mono ?_; rintro e w3 ⟨rfl, hb3⟩; obtain ⟨kc3, kf3, kz3, ky3, kx3, kv3, ku3⟩ := bcell hb3; (have e1 := kz3 (w.heap.size + 1) (by first | (simp; done) | (simp; (try clear wq1); (try clear wq2); (try clear wq3); (try clear wq4); omega))); go_split_ands; (have s1 := (kc3 (w.heap.size + 1) 0 (by first | (simp; done) | (simp; (try clear wq1); (try clear wq2); (try clear wq3); (try clear wq4); omega))).trans (by assumption)); (have s2 := (kc3 (w.heap.size + 1) 1 (by first | (simp; done) | (simp; (try clear wq1); (try clear wq2); (try clear wq3); (try clear wq4); omega))).trans (by assumption))))
      all_goals (try clear wq1)
      all_goals (try clear wq2)
      all_goals (try clear wq3)
      all_goals (try clear wq4)
      all_goals (go_wp2_with fail; go_meet)
      all_goals refine ⟨_, rfl, rfl, ?_, ?_, ?_, ?_⟩
      all_goals first | ((repeat (first | exact Below.refl _ _ | assumption | refine balloc ?_ _ | refine bdrew ?_ | refine bset ?_ ?_ _ | exact Nat.le_refl _ | refine bsize ?_ | (dsimp only; refine Nat.le_trans ?_ (Nat.le_add_right _ _)) | refine Nat.le_trans ?_ (Nat.le_add_right _ _) | (refine bstep ?_ (by assumption)))); done) | (simp [go_sem, kc3, kz3, ky3]; done) | (simp; omega)
    case rest =>
      obtain ⟨g2, rfl, rfl, hh0, hh1, hhs, hhb⟩ := hcut
      have hg0' := keepa hhb hgs hg0
      have hg1' := keepa hhb hgs hg1
      have hV' := boxed3_later hV hhb
      clear hg0 hg1 hgs hgb hV hhb
      obtain ⟨c1, c2, c3, c4, r1, r2, r3, r4, hs, hbw⟩ := hV'
      have z1 : w.heap.size < wc.heap.size := by omega
      have z2 : w.heap.size + 1 < wc.heap.size := by omega
      obtain ⟨_, u1, u2, u3, u4, u5, u6⟩ := stK_3 n d p q k hB1 hB2 hin
      rw [u1] at hg0'
      rw [u2] at hg1'
      rw [u3] at hh0
      rw [u4] at hh1
      clear u1 u2 u3 u4
      (go_wp2_with fail; refine (add_ok_impl _ _ _ _ u5 u6 _).mono ?_; rintro e w5 ⟨rfl, hb5⟩; have ha5 := hb5; obtain ⟨kc5, kf5, kz5, ky5, kx5, kv5, ku5⟩ := bcell hb5)
      go_wp2
      refine bodyPost_ret (v := .tuple #[.agg #[.int .i64 (lowN (stX n d k * stY p q (k * (k - 1) / 2) + stX p q (k * (k - 1) / 2) * stY n d k) (stY n d k * stY p q (k * (k - 1) / 2))), .int .i64 (lowD (stX n d k * stY p q (k * (k - 1) / 2) + stX p q (k * (k - 1) / 2) * stY n d k) (stY n d k * stY p q (k * (k - 1) / 2)))], .bool (lowB (stX n d k * stY p q (k * (k - 1) / 2) + stX p q (k * (k - 1) / 2) * stY n d k) (stY n d k * stY p q (k * (k - 1) / 2)))]) (by simp only [results, Try.results55]; go_simp) rfl ⟨rfl, ?_⟩
      (repeat (first | exact Below.refl _ _ | assumption | refine balloc ?_ _ | refine bdrew ?_ | refine bset ?_ ?_ _ | exact Nat.le_refl _ | refine bsize ?_ | (dsimp only; refine Nat.le_trans ?_ (Nat.le_add_right _ _)) | refine Nat.le_trans ?_ (Nat.le_add_right _ _) | (refine bstep ?_ (by assumption))))

end Go.Proofs.Ytlfbnogkbdgnaaa
