/- Camels: WayWith of the model. -/
import Derived.Test.YtkignanlkakdpaaCamK
import Derived.Test.YtkignanlkakdpaaOpsS
namespace Go.Proofs.Ytkignanlkakdpaa
open Go.ChangeShapes Go.WideShapes Go.ChangeAt Go.RowKit Go.Joins
set_option maxRecDepth 100000
set_option linter.unusedVariables false
set_option linter.unusedSimpArgs false

theorem sg_le (x : Int) (h : x ≤ 0) : sgI x ≤ 0 ∧ -1 ≤ sgI x := by unfold sgI; split <;> (try split) <;> omega
theorem sg_gt (x : Int) (h : 0 < x) : sgI x = 1 := by unfold sgI; rw [if_pos h]
theorem way_no {L E d n : Int} {t : Nat} (h : CamIn L E d n t) (p q : Int) (hq : 1 ≤ q) (hp : n * q < p * d) : twoN (wayWithK L E n d p q) (wayWithX L E n d p q) (wayWithM L E n d p q) = 0 ∧ twoD (wayWithK L E n d p q) (wayWithX L E n d p q) (wayWithM L E n d p q) = 0 ∧ twoB (wayWithK L E n d p q) (wayWithX L E n d p q) (wayWithM L E n d p q) = false := by
  by_cases h6 : d * p ≤ 6 * (L * (d * q))
  · obtain ⟨z1, z2, z3⟩ := low_neg _ (wayWithM L E n d p q) (way_more h p q hq hp h6)
    cases hk : wayWithK L E n d p q
    · exact two_no _ _
    · rw [(two_yes _ _).1, (two_yes _ _).2.1, (two_yes _ _).2.2]; exact ⟨z2, z3, z1⟩
  · have hk : wayWithK L E n d p q = false := by unfold wayWithK; rw [decide_eq_false h6, Bool.and_false]
    rw [hk]; exact two_no _ _
structure WyB (X Y q R p : Int) : Prop where
  a0 : 0 ≤ X * q
  a1 : X * q ≤ 2000000000000000
  b0 : 0 ≤ X * q * R
  b1 : X * q * R ≤ 300000000000000000
  s0 : 0 ≤ p * Y
  s1 : p * Y ≤ 900000000000000000
  u0 : 1 ≤ Y * q
  u1 : Y * q ≤ 900000000000000
  v0 : 1 ≤ Y * q * R
  v1 : Y * q * R ≤ 200000000000000000
theorem wy_b {L E d n : Int} {t : Nat} (H : CamIn L E d n t) (i k : Nat) (hi : k + i + 1 = t) (p q : Int) (p0 : 0 ≤ p) (p1 : p ≤ 1000000000) (q0 : 1 ≤ q) (q1 : q ≤ 1000000) :
    FurBd (paX L E d n t i) (paY L E d n t i) (paG L n t i) (paH d i * paR E t i) ∧ WyB (rdN (paX L E d n t i * (paH d i * paR E t i) + paG L n t i * paY L E d n t i) (paH d i * paR E t i * paY L E d n t i)) (rdD (paX L E d n t i * (paH d i * paR E t i) + paG L n t i * paY L E d n t i) (paH d i * paR E t i * paY L E d n t i)) q (paR E t i) p := by
  obtain ⟨a1, a2, a3, a4⟩ := pa_bd H i (by omega)
  obtain ⟨g0, g1, h1, h2, r1, r2, e0, e1, f0, f1, m0, u1, u2⟩ := pa_b H i k hi
  generalize paX L E d n t i = x at *
  generalize paY L E d n t i = y at *
  generalize paG L n t i = g at *
  generalize paR E t i = R at *
  generalize paH d i = h at *
  have c1 := mul_le2 x (h * R) 937152 1584 a1 a2 (by omega) u2
  have c2 := mul_le2 g y 864 498960 g0 g1 (by omega) a4
  have c3 := mul_le2 (h * R) y 1584 498960 (by omega) u2 (by omega) a4
  have c4 := Int.mul_pos (show 0 < h * R by omega) (show 0 < y by omega)
  obtain ⟨z1, z2, z3, _, _⟩ := rd_bd (x * (h * R) + g * y) (h * R * y) (by omega)
  have z3 := z3 (by omega)
  generalize rdN (x * (h * R) + g * y) (h * R * y) = X at *
  generalize rdD (x * (h * R) + g * y) (h * R * y) = Y at *
  have d1 := mul_le2 X q 1916000000 1000000 z3.1 (by omega) (by omega) q1
  have d2 := mul_le2 (X * q) R 1916000000000000 132 d1.1 (by omega) (by omega) r2
  have d3 := mul_le2 p Y 1000000000 790352640 p0 p1 (by omega) (by omega)
  have d4 := mul_le2 Y q 790352640 1000000 (by omega) (by omega) (by omega) q1
  have d5 := Int.mul_pos (show 0 < Y by omega) (show 0 < q by omega)
  have d6 := mul_le2 (Y * q) R 790352640000000 132 (by omega) (by omega) (by omega) r2
  have d7 := Int.mul_pos (show 0 < Y * q by omega) (show 0 < R by omega)
  exact ⟨⟨by omega, by omega, by omega, by omega, by omega⟩, ⟨by omega, by omega, by omega, by omega, by omega, by omega, by omega, by omega, by omega, by omega⟩⟩
set_option maxHeartbeats 3200000 in
theorem wayWith_spec (L E n d p q : Int) (bn : -9223372036854775808 ≤ n ∧ n ≤ 9223372036854775807) (bd : -9223372036854775808 ≤ d ∧ d ≤ 9223372036854775807) (bp : -9223372036854775808 ≤ p ∧ p ≤ 9223372036854775807) (bq : -9223372036854775808 ≤ q ∧ q ≤ 9223372036854775807) (w : World) :
    Calls Try.prog 56 #[.agg #[.int .i64 L, .int .i64 E], .agg #[.int .i64 n, .int .i64 d], .agg #[.int .i64 p, .int .i64 q]] w fun e w' => e = .returned (.tuple #[.agg #[.int .i64 (twoN (wayWithK L E n d p q) (wayWithX L E n d p q) (wayWithM L E n d p q)), .int .i64 (twoD (wayWithK L E n d p q) (wayWithX L E n d p q) (wayWithM L E n d p q))], .bool (twoB (wayWithK L E n d p q) (wayWithX L E n d p q) (wayWithM L E n d p q))]) ∧ Below w.heap.size w w' := by
  have HA := Lib.hid (fun W => ask_spec L E n d bn bd W)
  have HP := Lib.hid (fun W => place_spec p q bp bq W)
  cases h1 : askB L E n d
  · obtain ⟨e1, e2, e3⟩ := no_low (wayWithK L E n d p q) (wayWithX L E n d p q) (wayWithM L E n d p q) (by simp [wayWithK, h1])
    rw [e1, e2, e3]
    rw [h1] at HA
    clear e1 e2 e3 h1
    go_enter Try.func56, Try.ntmps56
    (go_wp2_with fail; refine (HA.out _).mono ?_; rintro e w1 ⟨rfl, hb1⟩; have ha1 := hb1; obtain ⟨kc1, kf1, kz1, ky1, kx1, kv1, ku1⟩ := bcell hb1)
    go_wp2
    refine bodyPost_ret (v := .tuple #[.agg #[.int .i64 0, .int .i64 0], .bool false]) (by simp only [results, Try.results56]; go_simp) rfl ⟨rfl, ?_⟩
    (repeat (first | with_reducible exact Below.refl _ _ | with_reducible assumption | with_reducible refine balloc ?_ _ | with_reducible refine bdrew ?_ | with_reducible refine below_drewN ?_ _ | with_reducible refine bset ?_ ?_ _ | with_reducible exact Nat.le_refl _ | with_reducible refine bsize ?_ | (dsimp only; refine Nat.le_trans ?_ (Nat.le_add_right _ _)) | with_reducible refine Nat.le_trans ?_ (Nat.le_add_right _ _) | (with_reducible refine bstep ?_ (by assumption))))
  cases h2 : plB p q
  · obtain ⟨e1, e2, e3⟩ := no_low (wayWithK L E n d p q) (wayWithX L E n d p q) (wayWithM L E n d p q) (by simp [wayWithK, h2])
    rw [e1, e2, e3]
    rw [h1] at HA
    rw [h2] at HP
    clear e1 e2 e3 h1 h2
    go_enter Try.func56, Try.ntmps56
    (go_wp2_with fail; refine (HA.out _).mono ?_; rintro e w1 ⟨rfl, hb1⟩; have ha1 := hb1; obtain ⟨kc1, kf1, kz1, ky1, kx1, kv1, ku1⟩ := bcell hb1)
    (go_wp2_with fail; refine (HP.out _).mono ?_; rintro e w2 ⟨rfl, hb2⟩; have ha2 := bjoin ha1 hb2 (by (repeat (first | with_reducible exact Below.refl _ _ | with_reducible assumption | with_reducible refine balloc ?_ _ | with_reducible refine bdrew ?_ | with_reducible refine below_drewN ?_ _ | with_reducible refine bset ?_ ?_ _ | with_reducible exact Nat.le_refl _ | with_reducible refine bsize ?_ | (dsimp only; refine Nat.le_trans ?_ (Nat.le_add_right _ _)) | with_reducible refine Nat.le_trans ?_ (Nat.le_add_right _ _) | (with_reducible refine bstep ?_ (by assumption))))); obtain ⟨kc2, kf2, kz2, ky2, kx2, kv2, ku2⟩ := bcell hb2; obtain ⟨jc2, jf2, jz2, jy2, jx2, jv2, ju2⟩ := bcell ha2)
    go_wp2
    refine bodyPost_ret (v := .tuple #[.agg #[.int .i64 0, .int .i64 0], .bool false]) (by simp only [results, Try.results56]; go_simp) rfl ⟨rfl, ?_⟩
    (repeat (first | with_reducible exact Below.refl _ _ | with_reducible assumption | with_reducible refine balloc ?_ _ | with_reducible refine bdrew ?_ | with_reducible refine below_drewN ?_ _ | with_reducible refine bset ?_ ?_ _ | with_reducible exact Nat.le_refl _ | with_reducible refine bsize ?_ | (dsimp only; refine Nat.le_trans ?_ (Nat.le_add_right _ _)) | with_reducible refine Nat.le_trans ?_ (Nat.le_add_right _ _) | (with_reducible refine bstep ?_ (by assumption))))
  obtain ⟨i1, i2, i3, i4⟩ := askB_yes L E n d h1
  obtain ⟨i5, i6⟩ := plB_yes p q h2
  obtain ⟨j1, j2, j3, j4⟩ := camB_yes L E i1
  have A1 := am_of n d i2
  have A2 := am_of p q i5
  obtain ⟨x1, x2, x3, x4⟩ := A1
  obtain ⟨y1, y2, y3, y4⟩ := A2
  have H := cam_in L E d n j1 j2 j3 j4 x3 i3 x1 i4
  have HCm := Lib.hid (fun W => cmp_spec p q n d (am_of p q i5) (am_of n d i2) W)
  rw [h1] at HA
  rw [h2] at HP
  by_cases hc : n * q < p * d
  · obtain ⟨z1, z2, z3⟩ := way_no H p q y3 hc
    rw [z1, z2, z3]
    have hsg := sg_gt (p * d - n * q) (by omega)
    rw [hsg] at HCm
    clear z1 z2 z3 hsg hc H h1 h2 i1 i2 i5
    go_enter Try.func56, Try.ntmps56
    go_upto_region 1 with fail
    change Code.wp _ _ _ _ ((((w.alloc (.cells #[.int .i64 L, .int .i64 E] 25)).alloc (.cells #[.int .i64 n, .int .i64 d] 32)).alloc (.cells #[.int .i64 p, .int .i64 q] 32)).alloc (.cells #[.int .i64 0, .int .i64 0] 32))
    generalize hV : ((((w.alloc (.cells #[.int .i64 L, .int .i64 E] 25)).alloc (.cells #[.int .i64 n, .int .i64 d] 32)).alloc (.cells #[.int .i64 p, .int .i64 q] 32)).alloc (.cells #[.int .i64 0, .int .i64 0] 32)) = V
    have c1 : V.cell? ⟨w.heap.size, 0, none⟩ = some (.int .i64 L) := by subst hV; simp [go_sem]
    have c2 : V.cell? ⟨w.heap.size, 1, none⟩ = some (.int .i64 E) := by subst hV; simp [go_sem]
    have c3 : V.cell? ⟨w.heap.size + 1, 0, none⟩ = some (.int .i64 n) := by subst hV; simp [go_sem]
    have c4 : V.cell? ⟨w.heap.size + 1, 1, none⟩ = some (.int .i64 d) := by subst hV; simp [go_sem]
    have c5 : V.cell? ⟨w.heap.size + 1 + 1, 0, none⟩ = some (.int .i64 p) := by subst hV; simp [go_sem]
    have c6 : V.cell? ⟨w.heap.size + 1 + 1, 1, none⟩ = some (.int .i64 q) := by subst hV; simp [go_sem]
    have hr : HasRes (w.heap.size + 1 + 1 + 1) V := ⟨.int .i64 0, .int .i64 0, by subst hV; simp [go_sem], by subst hV; simp [go_sem], by subst hV; simp [go_sem], by subst hV; simp [go_sem], by subst hV; simp⟩
    have hs : w.heap.size + 1 + 1 + 1 < V.heap.size := by subst hV; simp
    have hbw : Below w.heap.size w V := by subst hV; (repeat (first | with_reducible exact Below.refl _ _ | with_reducible assumption | with_reducible refine balloc ?_ _ | with_reducible refine bdrew ?_ | with_reducible refine below_drewN ?_ _ | with_reducible refine bset ?_ ?_ _ | with_reducible exact Nat.le_refl _ | with_reducible refine bsize ?_ | (dsimp only; refine Nat.le_trans ?_ (Nat.le_add_right _ _)) | with_reducible refine Nat.le_trans ?_ (Nat.le_add_right _ _) | (with_reducible refine bstep ?_ (by assumption))))
    clear hV
    go_wp2_with fail
    refine (HA.out _).mono ?_
    rintro e w1 ⟨rfl, hb⟩
    have f0 : Below V.heap.size V w1 := bstep (by (repeat (first | with_reducible exact Below.refl _ _ | with_reducible assumption | with_reducible refine balloc ?_ _ | with_reducible refine bdrew ?_ | with_reducible refine below_drewN ?_ _ | with_reducible refine bset ?_ ?_ _ | with_reducible exact Nat.le_refl _ | with_reducible refine bsize ?_ | (dsimp only; refine Nat.le_trans ?_ (Nat.le_add_right _ _)) | with_reducible refine Nat.le_trans ?_ (Nat.le_add_right _ _) | (with_reducible refine bstep ?_ (by assumption))))) hb
    replace c1 := keepa f0 (by omega) c1
    replace c2 := keepa f0 (by omega) c2
    replace c3 := keepa f0 (by omega) c3
    replace c4 := keepa f0 (by omega) c4
    replace c5 := keepa f0 (by omega) c5
    replace c6 := keepa f0 (by omega) c6
    replace hr := hr.later f0
    replace hbw := bstep hbw f0
    replace hs := Nat.lt_of_lt_of_le hs f0.size
    clear f0 hb
    go_wp2_with fail
    refine (HP.out _).mono ?_
    rintro e w2 ⟨rfl, hb⟩
    have f0 : Below w1.heap.size w1 w2 := bstep (by (repeat (first | with_reducible exact Below.refl _ _ | with_reducible assumption | with_reducible refine balloc ?_ _ | with_reducible refine bdrew ?_ | with_reducible refine below_drewN ?_ _ | with_reducible refine bset ?_ ?_ _ | with_reducible exact Nat.le_refl _ | with_reducible refine bsize ?_ | (dsimp only; refine Nat.le_trans ?_ (Nat.le_add_right _ _)) | with_reducible refine Nat.le_trans ?_ (Nat.le_add_right _ _) | (with_reducible refine bstep ?_ (by assumption))))) hb
    replace c1 := keepa f0 (by omega) c1
    replace c2 := keepa f0 (by omega) c2
    replace c3 := keepa f0 (by omega) c3
    replace c4 := keepa f0 (by omega) c4
    replace c5 := keepa f0 (by omega) c5
    replace c6 := keepa f0 (by omega) c6
    replace hr := hr.later f0
    replace hbw := bstep hbw f0
    replace hs := Nat.lt_of_lt_of_le hs f0.size
    clear f0 hb
    go_wp2_with fail
    refine (HCm.out _).mono ?_
    rintro e w3 ⟨rfl, hb⟩
    have f0 : Below w2.heap.size w2 w3 := bstep (by (repeat (first | with_reducible exact Below.refl _ _ | with_reducible assumption | with_reducible refine balloc ?_ _ | with_reducible refine bdrew ?_ | with_reducible refine below_drewN ?_ _ | with_reducible refine bset ?_ ?_ _ | with_reducible exact Nat.le_refl _ | with_reducible refine bsize ?_ | (dsimp only; refine Nat.le_trans ?_ (Nat.le_add_right _ _)) | with_reducible refine Nat.le_trans ?_ (Nat.le_add_right _ _) | (with_reducible refine bstep ?_ (by assumption))))) hb
    replace c1 := keepa f0 (by omega) c1
    replace c2 := keepa f0 (by omega) c2
    replace c3 := keepa f0 (by omega) c3
    replace c4 := keepa f0 (by omega) c4
    replace c5 := keepa f0 (by omega) c5
    replace c6 := keepa f0 (by omega) c6
    replace hr := hr.later f0
    replace hbw := bstep hbw f0
    replace hs := Nat.lt_of_lt_of_le hs f0.size
    clear f0 hb
    obtain ⟨rx, ry, r1, r2, r3, r4, r5⟩ := hr
    go_wp2
    refine bodyPost_ret (v := .tuple #[.agg #[.int .i64 0, .int .i64 0], .bool false]) (by simp only [results, Try.results56]; go_simp) rfl ⟨rfl, ?_⟩
    (repeat (first | with_reducible exact Below.refl _ _ | with_reducible assumption | with_reducible refine balloc ?_ _ | with_reducible refine bdrew ?_ | with_reducible refine below_drewN ?_ _ | with_reducible refine bset ?_ ?_ _ | with_reducible exact Nat.le_refl _ | with_reducible refine bsize ?_ | (dsimp only; refine Nat.le_trans ?_ (Nat.le_add_right _ _)) | with_reducible refine Nat.le_trans ?_ (Nat.le_add_right _ _) | (with_reducible refine bstep ?_ (by assumption))))
  have hK : wayWithK L E n d p q = true := by
    have hn := H.ht.hi
    have hb := H.ht.b
    obtain ⟨l1, l2⟩ := H.ld
    have e1 := Int.mul_le_mul_of_nonneg_right (show n ≤ 6 * (L * d) by have := mul_le2 (6 - (trp (L * d) n : Int)) (L * d) 6 144 (by omega) (by omega) (by omega) l2; rw [Int.sub_mul] at this; omega) (show 0 ≤ q by omega)
    have e2 : 6 * (L * d) * q = 6 * (L * (d * q)) := by ac_rfl
    have e3 : d * p = p * d := Int.mul_comm _ _
    unfold wayWithK
    rw [h1, h2, decide_eq_true (by omega : d * p ≤ 6 * (L * (d * q)))]
    rfl
  rw [hK, (two_yes _ _).1, (two_yes _ _).2.1, (two_yes _ _).2.2]
  have hsg := sg_le (p * d - n * q) (by omega)
  obtain ⟨sg, hsgE⟩ : ∃ sg, sgI (p * d - n * q) = sg := ⟨_, rfl⟩
  rw [hsgE] at HCm hsg
  obtain ⟨hsg1, hsg2⟩ := hsg
  clear hsgE hK
  have HPt := Lib.hid (fun W => parts_lies L E n d _ H rfl W)
  have HW := Lib.hid (fun i k hi h1' h2' => way_low H p q y3 i k hi h1' h2' _ _ rfl rfl)
  have HWb := Lib.hid (fun i k hi => wy_b H i k hi p q y1 y2 y3 i6)
  have HH := Lib.hid H
  have HC := Lib.hid hc
  have ta := H.ht.a
  have tb := H.ht.b
  clear H h1 h2 i1 i2 i5 hc
  generalize wayWithX L E n d p q = X at *
  generalize wayWithM L E n d p q = M at *
  generalize trp (L * d) n = t at *
  go_enter Try.func56, Try.ntmps56
  go_upto_region 1 with fail
  change Code.wp _ _ _ _ ((((w.alloc (.cells #[.int .i64 L, .int .i64 E] 25)).alloc (.cells #[.int .i64 n, .int .i64 d] 32)).alloc (.cells #[.int .i64 p, .int .i64 q] 32)).alloc (.cells #[.int .i64 0, .int .i64 0] 32))
  generalize hV : ((((w.alloc (.cells #[.int .i64 L, .int .i64 E] 25)).alloc (.cells #[.int .i64 n, .int .i64 d] 32)).alloc (.cells #[.int .i64 p, .int .i64 q] 32)).alloc (.cells #[.int .i64 0, .int .i64 0] 32)) = V
  have c1 : V.cell? ⟨w.heap.size, 0, none⟩ = some (.int .i64 L) := by subst hV; simp [go_sem]
  have c2 : V.cell? ⟨w.heap.size, 1, none⟩ = some (.int .i64 E) := by subst hV; simp [go_sem]
  have c3 : V.cell? ⟨w.heap.size + 1, 0, none⟩ = some (.int .i64 n) := by subst hV; simp [go_sem]
  have c4 : V.cell? ⟨w.heap.size + 1, 1, none⟩ = some (.int .i64 d) := by subst hV; simp [go_sem]
  have c5 : V.cell? ⟨w.heap.size + 1 + 1, 0, none⟩ = some (.int .i64 p) := by subst hV; simp [go_sem]
  have c6 : V.cell? ⟨w.heap.size + 1 + 1, 1, none⟩ = some (.int .i64 q) := by subst hV; simp [go_sem]
  have hr : HasRes (w.heap.size + 1 + 1 + 1) V := ⟨.int .i64 0, .int .i64 0, by subst hV; simp [go_sem], by subst hV; simp [go_sem], by subst hV; simp [go_sem], by subst hV; simp [go_sem], by subst hV; simp⟩
  have hs : w.heap.size + 1 + 1 + 1 < V.heap.size := by subst hV; simp
  have hbw : Below w.heap.size w V := by subst hV; (repeat (first | with_reducible exact Below.refl _ _ | with_reducible assumption | with_reducible refine balloc ?_ _ | with_reducible refine bdrew ?_ | with_reducible refine below_drewN ?_ _ | with_reducible refine bset ?_ ?_ _ | with_reducible exact Nat.le_refl _ | with_reducible refine bsize ?_ | (dsimp only; refine Nat.le_trans ?_ (Nat.le_add_right _ _)) | with_reducible refine Nat.le_trans ?_ (Nat.le_add_right _ _) | (with_reducible refine bstep ?_ (by assumption))))
  clear hV
  go_wp2_with fail
  refine (HA.out _).mono ?_
  rintro e w1 ⟨rfl, hb⟩
  have f0 : Below V.heap.size V w1 := bstep (by (repeat (first | with_reducible exact Below.refl _ _ | with_reducible assumption | with_reducible refine balloc ?_ _ | with_reducible refine bdrew ?_ | with_reducible refine below_drewN ?_ _ | with_reducible refine bset ?_ ?_ _ | with_reducible exact Nat.le_refl _ | with_reducible refine bsize ?_ | (dsimp only; refine Nat.le_trans ?_ (Nat.le_add_right _ _)) | with_reducible refine Nat.le_trans ?_ (Nat.le_add_right _ _) | (with_reducible refine bstep ?_ (by assumption))))) hb
  replace c1 := keepa f0 (by omega) c1
  replace c2 := keepa f0 (by omega) c2
  replace c3 := keepa f0 (by omega) c3
  replace c4 := keepa f0 (by omega) c4
  replace c5 := keepa f0 (by omega) c5
  replace c6 := keepa f0 (by omega) c6
  replace hr := hr.later f0
  replace hbw := bstep hbw f0
  replace hs := Nat.lt_of_lt_of_le hs f0.size
  clear f0 hb
  go_wp2_with fail
  refine (HP.out _).mono ?_
  rintro e w2 ⟨rfl, hb⟩
  have f0 : Below w1.heap.size w1 w2 := bstep (by (repeat (first | with_reducible exact Below.refl _ _ | with_reducible assumption | with_reducible refine balloc ?_ _ | with_reducible refine bdrew ?_ | with_reducible refine below_drewN ?_ _ | with_reducible refine bset ?_ ?_ _ | with_reducible exact Nat.le_refl _ | with_reducible refine bsize ?_ | (dsimp only; refine Nat.le_trans ?_ (Nat.le_add_right _ _)) | with_reducible refine Nat.le_trans ?_ (Nat.le_add_right _ _) | (with_reducible refine bstep ?_ (by assumption))))) hb
  replace c1 := keepa f0 (by omega) c1
  replace c2 := keepa f0 (by omega) c2
  replace c3 := keepa f0 (by omega) c3
  replace c4 := keepa f0 (by omega) c4
  replace c5 := keepa f0 (by omega) c5
  replace c6 := keepa f0 (by omega) c6
  replace hr := hr.later f0
  replace hbw := bstep hbw f0
  replace hs := Nat.lt_of_lt_of_le hs f0.size
  clear f0 hb
  go_wp2_with fail
  refine (HCm.out _).mono ?_
  rintro e w3 ⟨rfl, hb⟩
  have f0 : Below w2.heap.size w2 w3 := bstep (by (repeat (first | with_reducible exact Below.refl _ _ | with_reducible assumption | with_reducible refine balloc ?_ _ | with_reducible refine bdrew ?_ | with_reducible refine below_drewN ?_ _ | with_reducible refine bset ?_ ?_ _ | with_reducible exact Nat.le_refl _ | with_reducible refine bsize ?_ | (dsimp only; refine Nat.le_trans ?_ (Nat.le_add_right _ _)) | with_reducible refine Nat.le_trans ?_ (Nat.le_add_right _ _) | (with_reducible refine bstep ?_ (by assumption))))) hb
  replace c1 := keepa f0 (by omega) c1
  replace c2 := keepa f0 (by omega) c2
  replace c3 := keepa f0 (by omega) c3
  replace c4 := keepa f0 (by omega) c4
  replace c5 := keepa f0 (by omega) c5
  replace c6 := keepa f0 (by omega) c6
  replace hr := hr.later f0
  replace hbw := bstep hbw f0
  replace hs := Nat.lt_of_lt_of_le hs f0.size
  clear f0 hb
  go_wp2_with fail
  refine (HPt.out _).mono ?_
  rintro e w4 ⟨ga, cap, rfl, hL, hg, hg2, hb⟩
  have f0 : Below w3.heap.size w3 w4 := bstep (by (repeat (first | with_reducible exact Below.refl _ _ | with_reducible assumption | with_reducible refine balloc ?_ _ | with_reducible refine bdrew ?_ | with_reducible refine below_drewN ?_ _ | with_reducible refine bset ?_ ?_ _ | with_reducible exact Nat.le_refl _ | with_reducible refine bsize ?_ | (dsimp only; refine Nat.le_trans ?_ (Nat.le_add_right _ _)) | with_reducible refine Nat.le_trans ?_ (Nat.le_add_right _ _) | (with_reducible refine bstep ?_ (by assumption))))) hb
  replace c5 := keepa f0 (by omega) c5
  replace c6 := keepa f0 (by omega) c6
  replace hr := hr.later f0
  replace hbw := bstep hbw f0
  replace hs := Nat.lt_of_lt_of_le hs f0.size
  clear f0 hb hg c1 c2 c3 c4
  go_wp2
  go_loopw [37] (fun i wr => ∃ k : Nat, k ≤ t ∧ i = .int .i64 k ∧ (k = 0 ∨ p < (((t : Int) - ((k - 1 : Nat) : Int) - 1) * L) * q) ∧ Below w4.heap.size w4 wr) (fun i _ => t - (intOf i).toNat)
  case atStart => exact ⟨0, Nat.zero_le _, rfl, Or.inl rfl, by (repeat (first | with_reducible exact Below.refl _ _ | with_reducible assumption | with_reducible refine balloc ?_ _ | with_reducible refine bdrew ?_ | with_reducible refine below_drewN ?_ _ | with_reducible refine bset ?_ ?_ _ | with_reducible exact Nat.le_refl _ | with_reducible refine bsize ?_ | (dsimp only; refine Nat.le_trans ?_ (Nat.le_add_right _ _)) | with_reducible refine Nat.le_trans ?_ (Nat.le_add_right _ _) | (with_reducible refine bstep ?_ (by assumption))))⟩
  case round =>
    obtain ⟨k, hk, rfl, hlo, hbel⟩ := hrel
    by_cases hlt : k < t
    · obtain ⟨k1, k2, k3, k4, k5, k6⟩ := part_cells0 (liesG_below hL hbel) k hlt
      obtain ⟨m, hm⟩ : ∃ m, m + k + 1 = t := ⟨t - 1 - k, by omega⟩
      have H := HH.out
      have bX := pa_bd H k hk
      have hP := pa_b H k m hm
      have n1 := mul_le2 (((t : Int) - k - 1) * L) q 60 1000000 hP.e0 hP.e1 (by omega) i6
      obtain ⟨n1, n1'⟩ := n1
      replace c5 := keepa hbel (by omega) c5
      replace c6 := keepa hbel (by omega) c6
      replace hr := hr.later hbel
      replace hbw := bstep hbw hbel
      have hs1 : w.heap.size + 1 + 1 < wr.heap.size := by have := hbel.size; omega
      have hs0 : w.heap.size + 1 + 1 + 1 < wr.heap.size := by have := hbel.size; omega
      by_cases hc : p < (((t : Int) - k - 1) * L) * q
      · have HCC := Lib.hid hc
        clear hlo bX hP H
        go_wp2
        go_roundw
        case rel =>
          refine ⟨k + 1, by omega, by go_num, Or.inr ?_, by (repeat (first | with_reducible exact Below.refl _ _ | with_reducible assumption | with_reducible refine balloc ?_ _ | with_reducible refine bdrew ?_ | with_reducible refine below_drewN ?_ _ | with_reducible refine bset ?_ ?_ _ | with_reducible exact Nat.le_refl _ | with_reducible refine bsize ?_ | (dsimp only; refine Nat.le_trans ?_ (Nat.le_add_right _ _)) | with_reducible refine Nat.le_trans ?_ (Nat.le_add_right _ _) | (with_reducible refine bstep ?_ (by assumption))))⟩
          exact HCC.out
        case measure => simp [intOf]; omega
      · have hc' : (((t : Int) - k - 1) * L) * q ≤ p := by omega
        have eK := paE_is L t k m hm
        have q1 : m * (L * (d * q)) ≤ d * p := by
          rw [eK] at hc'
          have := Int.mul_le_mul_of_nonneg_left hc' (show 0 ≤ d by omega)
          have e : d * ((m : Int) * L * q) = m * (L * (d * q)) := by ac_rfl
          omega
        have q2 : d * p ≤ (m + 1) * (L * (d * q)) := by
          rcases hlo with e | e
          · subst e
            have hn := H.ht.hi
            have et : (t : Int) = m + 1 := by omega
            rw [et] at hn
            have e1 := Int.mul_le_mul_of_nonneg_right hn (show 0 ≤ q by omega)
            have e2 : ((m : Int) + 1) * (L * d) * q = (m + 1) * (L * (d * q)) := by ac_rfl
            have e3 : d * p = p * d := Int.mul_comm _ _
            have := HC.out
            omega
          · by_cases hk0 : k = 0
            · subst hk0
              simp only [Nat.zero_sub] at e
              have e0 := eK
              omega
            · have e0 : (t : Int) - ((k - 1 : Nat) : Int) - 1 = m + 1 := by omega
              rw [e0] at e
              have := Int.mul_le_mul_of_nonneg_left (Int.le_of_lt e) (show 0 ≤ d by omega)
              have e2 : d * (((m : Int) + 1) * L * q) = (m + 1) * (L * (d * q)) := by ac_rfl
              omega
        have hv := HW.out k m hm q1 q2
        obtain ⟨hF, hB⟩ := HWb.out k m hm
        have HF := Lib.hid (fun W => fur_spec _ _ _ _ hF W)
        have HM := Lib.hid (fun W => made_spec (rdN (paX L E d n t k * (paH d k * paR E t k) + paG L n t k * paY L E d n t k) (paH d k * paR E t k * paY L E d n t k) * q * paR E t k - p * rdD (paX L E d n t k * (paH d k * paR E t k) + paG L n t k * paY L E d n t k) (paH d k * paR E t k * paY L E d n t k)) (rdD (paX L E d n t k * (paH d k * paR E t k) + paG L n t k * paY L E d n t k) (paH d k * paR E t k * paY L E d n t k) * q * paR E t k) hB.v0 (by have := hB.v1; omega) (by have := hB.b1; have := hB.s0; omega) W)
        rw [hv.1, hv.2.1, hv.2.2] at HM
        obtain ⟨t0, t1, t2, t3, t4, t5, t6, t7, t8, t9⟩ := hB
        obtain ⟨g0, g1, h1, h2, r1, r2, _, _, _, _, _, u1, u2⟩ := hP
        clear hv q1 q2 eK hlo hc hF H
        generalize rdN (paX L E d n t k * (paH d k * paR E t k) + paG L n t k * paY L E d n t k) (paH d k * paR E t k * paY L E d n t k) = aa at *
        generalize rdD (paX L E d n t k * (paH d k * paR E t k) + paG L n t k * paY L E d n t k) (paH d k * paR E t k * paY L E d n t k) = cc at *
        generalize paX L E d n t k = x at *
        generalize paY L E d n t k = y at *
        generalize paG L n t k = g at *
        generalize paH d k = h at *
        generalize paR E t k = R at *
        generalize ((t : Int) - k - 1) * L = en at *
        have hSx : Six (wr.alloc (.cells #[.int .i64 x, .int .i64 y, .int .i64 g, .int .i64 h, .int .i64 R, .int .i64 en] 93)) wr.heap.size x y g h R en := by constructor <;> simp [go_sem]
        go_wp2_with fail
        refine (HF.out _).mono ?_
        rintro e w7 ⟨rfl, hb7⟩
        have f7 : Below wr.heap.size wr w7 := bstep (by (repeat (first | with_reducible exact Below.refl _ _ | with_reducible assumption | with_reducible refine balloc ?_ _ | with_reducible refine bdrew ?_ | with_reducible refine below_drewN ?_ _ | with_reducible refine bset ?_ ?_ _ | with_reducible exact Nat.le_refl _ | with_reducible refine bsize ?_ | (dsimp only; refine Nat.le_trans ?_ (Nat.le_add_right _ _)) | with_reducible refine Nat.le_trans ?_ (Nat.le_add_right _ _) | (with_reducible refine bstep ?_ (by assumption))))) hb7
        have hS7 := hSx.later (bstep (by (repeat (first | with_reducible exact Below.refl _ _ | with_reducible assumption | with_reducible refine balloc ?_ _ | with_reducible refine bdrew ?_ | with_reducible refine below_drewN ?_ _ | with_reducible refine bset ?_ ?_ _ | with_reducible exact Nat.le_refl _ | with_reducible refine bsize ?_ | (dsimp only; refine Nat.le_trans ?_ (Nat.le_add_right _ _)) | with_reducible refine Nat.le_trans ?_ (Nat.le_add_right _ _) | (with_reducible refine bstep ?_ (by assumption))))) hb7)
        replace c5 := keepa f7 (by omega) c5
        replace c6 := keepa f7 (by omega) c6
        replace hr := hr.later f7
        replace hbw := bstep hbw f7
        have hs2 := Nat.lt_of_lt_of_le hs1 f7.size
        clear hSx f7 hb7 k1 k2 k3 k4 k5 k6
        obtain ⟨s0, s1, s2, s3, s4, s5, _, _, _, _, _, _, sz⟩ := hS7
        clear hs hs0 hs1
        go_wp2_with fail
        refine (HM.out _).mono ?_
        rintro e w8 ⟨rfl, hb8⟩
        have f8 : Below w7.heap.size w7 w8 := bstep (by (repeat (first | with_reducible exact Below.refl _ _ | with_reducible assumption | with_reducible refine balloc ?_ _ | with_reducible refine bdrew ?_ | with_reducible refine below_drewN ?_ _ | with_reducible refine bset ?_ ?_ _ | with_reducible exact Nat.le_refl _ | with_reducible refine bsize ?_ | (dsimp only; refine Nat.le_trans ?_ (Nat.le_add_right _ _)) | with_reducible refine Nat.le_trans ?_ (Nat.le_add_right _ _) | (with_reducible refine bstep ?_ (by assumption))))) hb8
        replace hr := hr.later f8
        replace hbw := bstep hbw f8
        clear f8 hb8 s0 s1 s2 s3 s4 s5 sz c5 c6 hs2
        obtain ⟨rx, ry, z1, z2, z3, z4, z5⟩ := hr
        go_wp2
        refine bodyPost_ret (v := .tuple #[.agg #[.int .i64 (lowN (X) (M)), .int .i64 (lowD (X) (M))], .bool (lowB (X) (M))]) (by simp only [results, Try.results56]; go_simp) rfl ⟨rfl, ?_⟩
        (repeat (first | with_reducible exact Below.refl _ _ | with_reducible assumption | with_reducible refine balloc ?_ _ | with_reducible refine bdrew ?_ | with_reducible refine below_drewN ?_ _ | with_reducible refine bset ?_ ?_ _ | with_reducible exact Nat.le_refl _ | with_reducible refine bsize ?_ | (dsimp only; refine Nat.le_trans ?_ (Nat.le_add_right _ _)) | with_reducible refine Nat.le_trans ?_ (Nat.le_add_right _ _) | (with_reducible refine bstep ?_ (by assumption))))
    · exfalso
      have hkt : k = t := by omega
      rcases hlo with e | e
      · omega
      · have e0 : (t : Int) - ((k - 1 : Nat) : Int) - 1 = 0 := by omega
        rw [e0, Int.zero_mul, Int.zero_mul] at e
        omega
end Go.Proofs.Ytkignanlkakdpaa
