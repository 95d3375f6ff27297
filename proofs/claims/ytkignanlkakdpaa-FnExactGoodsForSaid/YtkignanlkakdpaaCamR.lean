/- Camels: GoodsFor of the model. -/
import Derived.Test.YtkignanlkakdpaaCamQ
import Derived.Deep.RegionHeld3
import Derived.Deep.DeepCutAuto
namespace Go.Proofs.Ytkignanlkakdpaa
open Go.ChangeShapes Go.WideShapes Go.ChangeAt Go.RowKit Go.Joins
set_option maxRecDepth 100000
set_option linter.unusedVariables false
set_option linter.unusedSimpArgs false

set_option maxHeartbeats 3200000 in
theorem goodsFor_spec (L E n d p q : Int) (bn : -9223372036854775808 ≤ n ∧ n ≤ 9223372036854775807) (bd : -9223372036854775808 ≤ d ∧ d ≤ 9223372036854775807) (bp : -9223372036854775808 ≤ p ∧ p ≤ 9223372036854775807) (bq : -9223372036854775808 ≤ q ∧ q ≤ 9223372036854775807) (w : World) :
    Calls Try.prog 31 #[.agg #[.int .i64 L, .int .i64 E], .agg #[.int .i64 p, .int .i64 q], .agg #[.int .i64 n, .int .i64 d]] w fun e w' => e = .returned (.tuple #[.agg #[.int .i64 (twoN (goodsForK L E n d p q) (goodsForX L E n d p q) (goodsForM L E n d p q)), .int .i64 (twoD (goodsForK L E n d p q) (goodsForX L E n d p q) (goodsForM L E n d p q))], .bool (twoB (goodsForK L E n d p q) (goodsForX L E n d p q) (goodsForM L E n d p q))]) ∧ Below w.heap.size w w' := by
  have HA := Lib.hid (fun W => ask_spec L E n d bn bd W)
  have HP := Lib.hid (fun W => place_spec p q bp bq W)
  cases h1 : askB L E n d
  · obtain ⟨e1, e2, e3⟩ := no_low (goodsForK L E n d p q) (goodsForX L E n d p q) (goodsForM L E n d p q) (by simp [goodsForK, h1])
    rw [e1, e2, e3]
    rw [h1] at HA
    clear e1 e2 e3 h1
    go_enter Try.func31, Try.ntmps31
    (go_wp2_with fail; refine (HA.out _).mono ?_; rintro e w1 ⟨rfl, hb1⟩; have ha1 := hb1; obtain ⟨kc1, kf1, kz1, ky1, kx1, kv1, ku1⟩ := bcell hb1)
    go_wp2
    refine bodyPost_ret (v := .tuple #[.agg #[.int .i64 0, .int .i64 0], .bool false]) (by simp only [results, Try.results31]; go_simp) rfl ⟨rfl, ?_⟩
    (repeat (first | with_reducible exact Below.refl _ _ | with_reducible assumption | with_reducible refine balloc ?_ _ | with_reducible refine bdrew ?_ | with_reducible refine below_drewN ?_ _ | with_reducible refine bset ?_ ?_ _ | with_reducible exact Nat.le_refl _ | with_reducible refine bsize ?_ | (dsimp only; refine Nat.le_trans ?_ (Nat.le_add_right _ _)) | with_reducible refine Nat.le_trans ?_ (Nat.le_add_right _ _) | (with_reducible refine bstep ?_ (by assumption))))
  cases h2 : plB p q
  · obtain ⟨e1, e2, e3⟩ := no_low (goodsForK L E n d p q) (goodsForX L E n d p q) (goodsForM L E n d p q) (by simp [goodsForK, h2])
    rw [e1, e2, e3]
    rw [h1] at HA
    rw [h2] at HP
    clear e1 e2 e3 h1 h2
    go_enter Try.func31, Try.ntmps31
    (go_wp2_with fail; refine (HA.out _).mono ?_; rintro e w1 ⟨rfl, hb1⟩; have ha1 := hb1; obtain ⟨kc1, kf1, kz1, ky1, kx1, kv1, ku1⟩ := bcell hb1)
    (go_wp2_with fail; refine (HP.out _).mono ?_; rintro e w2 ⟨rfl, hb2⟩; have ha2 := bjoin ha1 hb2 (by (repeat (first | with_reducible exact Below.refl _ _ | with_reducible assumption | with_reducible refine balloc ?_ _ | with_reducible refine bdrew ?_ | with_reducible refine below_drewN ?_ _ | with_reducible refine bset ?_ ?_ _ | with_reducible exact Nat.le_refl _ | with_reducible refine bsize ?_ | (dsimp only; refine Nat.le_trans ?_ (Nat.le_add_right _ _)) | with_reducible refine Nat.le_trans ?_ (Nat.le_add_right _ _) | (with_reducible refine bstep ?_ (by assumption))))); obtain ⟨kc2, kf2, kz2, ky2, kx2, kv2, ku2⟩ := bcell hb2; obtain ⟨jc2, jf2, jz2, jy2, jx2, jv2, ju2⟩ := bcell ha2)
    go_wp2
    refine bodyPost_ret (v := .tuple #[.agg #[.int .i64 0, .int .i64 0], .bool false]) (by simp only [results, Try.results31]; go_simp) rfl ⟨rfl, ?_⟩
    (repeat (first | with_reducible exact Below.refl _ _ | with_reducible assumption | with_reducible refine balloc ?_ _ | with_reducible refine bdrew ?_ | with_reducible refine below_drewN ?_ _ | with_reducible refine bset ?_ ?_ _ | with_reducible exact Nat.le_refl _ | with_reducible refine bsize ?_ | (dsimp only; refine Nat.le_trans ?_ (Nat.le_add_right _ _)) | with_reducible refine Nat.le_trans ?_ (Nat.le_add_right _ _) | (with_reducible refine bstep ?_ (by assumption))))
  obtain ⟨i1, i2, i3, i4⟩ := askB_yes L E n d h1
  obtain ⟨i5, i6⟩ := plB_yes p q h2
  obtain ⟨j1, j2, j3, j4⟩ := camB_yes L E i1
  obtain ⟨x1, x2, x3, x4⟩ := am_of n d i2
  obtain ⟨y1, y2, y3, y4⟩ := am_of p q i5
  have H := cam_in L E d n j1 j2 j3 j4 x3 i3 x1 i4
  have HT := Lib.hid (fun W => ctrips_spec L E n d j1 j2 x3 (by omega) W)
  have hkk : goodsForK L E n d p q = decide (dS (L * (d * q)) (q * n) + d * 3465 * p * E ≤ 6508 * (L * (d * q))) := by unfold goodsForK; rw [h1, h2]; simp
  have HI := Lib.hid (fun k hk => gf_iff H k hk p q y3)
  have HL := Lib.hid (fun k U g h hp A hA R hR h0 h1' S T hS hT => gf_low H k U g h hp A hA p q R y3 hR h0 h1' S T hS hT)
  rw [h1] at HA
  rw [h2] at HP
  have hdC : ∀ k : Nat, k < 6 → dC (k + 1) * (L * (d * q)) ≤ 6508 * (L * (d * q)) := by
    intro k hk
    have hp := Int.mul_pos (show 0 < L by omega) (Int.mul_pos (show 0 < d by omega) (show 0 < q by omega))
    refine Int.mul_le_mul_of_nonneg_right ?_ (by omega)
    have hc : k = 0 ∨ k = 1 ∨ k = 2 ∨ k = 3 ∨ k = 4 ∨ k = 5 := by omega
    rcases hc with rfl | rfl | rfl | rfl | rfl | rfl <;> simp [dC]
  have hd0 : ∀ k : Nat, k + 1 = trp (L * d) n → dC k * (L * (d * q)) ≤ dS (L * (d * q)) (q * n) + d * 3465 * p * E := by
    intro k hk
    have hat := gf_first H k hk
    have hl := H.ld
    have e1 := dS_mono (L * d) _ _ hat.lo
    rw [dS_whole (L * d) k (by have := hat.k6; omega) hl.1] at e1
    have e2 : L * (d * q) = q * (L * d) := by ac_rfl
    have e3 : 0 ≤ d * 3465 * p * E := Int.mul_nonneg (Int.mul_nonneg (by omega) y1) (by omega)
    rw [e2, dS_scale _ _ _ (by omega)]
    have e4 := Int.mul_le_mul_of_nonneg_left e1 (show 0 ≤ q by omega)
    have e5 : dC k * (q * (L * d)) = q * (dC k * (L * d)) := by ac_rfl
    omega
  generalize dS (L * (d * q)) (q * n) + d * 3465 * p * E = FW at *
  generalize L * (d * q) = lq at *
  have HK1 := Lib.hid (show FW ≤ 6508 * lq → goodsForK L E n d p q = true from fun h => by rw [hkk]; exact decide_eq_true h)
  have HK0 := Lib.hid (show ¬ FW ≤ 6508 * lq → goodsForK L E n d p q = false from fun h => by rw [hkk]; exact decide_eq_false h)
  have HD := Lib.hid hdC
  have HD0 := Lib.hid hd0
  clear hkk hdC hd0 h1 h2 i1 i2 i5
  generalize goodsForK L E n d p q = K at *
  generalize goodsForX L E n d p q = X at *
  generalize goodsForM L E n d p q = M at *
  generalize trp (L * d) n = t at *
  have HH := Lib.hid H
  have ta := H.ht.a
  have tb := H.ht.b
  clear H
  go_enter Try.func31, Try.ntmps31
  go_upto_region 1 with fail
  change Code.wp _ _ _ _ ((((w.alloc (.cells #[.int .i64 L, .int .i64 E] 25)).alloc (.cells #[.int .i64 p, .int .i64 q] 32)).alloc (.cells #[.int .i64 n, .int .i64 d] 32)).alloc (.cells #[.int .i64 0, .int .i64 0] 32))
  generalize hV : ((((w.alloc (.cells #[.int .i64 L, .int .i64 E] 25)).alloc (.cells #[.int .i64 p, .int .i64 q] 32)).alloc (.cells #[.int .i64 n, .int .i64 d] 32)).alloc (.cells #[.int .i64 0, .int .i64 0] 32)) = V
  have c1 : V.cell? ⟨w.heap.size, 0, none⟩ = some (.int .i64 L) := by subst hV; simp [go_sem]
  have c2 : V.cell? ⟨w.heap.size, 1, none⟩ = some (.int .i64 E) := by subst hV; simp [go_sem]
  have c3 : V.cell? ⟨w.heap.size + 1, 0, none⟩ = some (.int .i64 p) := by subst hV; simp [go_sem]
  have c4 : V.cell? ⟨w.heap.size + 1, 1, none⟩ = some (.int .i64 q) := by subst hV; simp [go_sem]
  have c5 : V.cell? ⟨w.heap.size + 1 + 1, 0, none⟩ = some (.int .i64 n) := by subst hV; simp [go_sem]
  have c6 : V.cell? ⟨w.heap.size + 1 + 1, 1, none⟩ = some (.int .i64 d) := by subst hV; simp [go_sem]
  have hr : HasRes (w.heap.size + 1 + 1 + 1) V := ⟨.int .i64 0, .int .i64 0, by subst hV; simp [go_sem], by subst hV; simp [go_sem], by subst hV; simp [go_sem], by subst hV; simp [go_sem], by subst hV; simp⟩
  have hs : w.heap.size + 1 + 1 + 1 < V.heap.size := by subst hV; simp
  have hbw : Below w.heap.size w V := by subst hV; (repeat (first | with_reducible exact Below.refl _ _ | with_reducible assumption | with_reducible refine balloc ?_ _ | with_reducible refine bdrew ?_ | with_reducible refine below_drewN ?_ _ | with_reducible refine bset ?_ ?_ _ | with_reducible exact Nat.le_refl _ | with_reducible refine bsize ?_ | (dsimp only; refine Nat.le_trans ?_ (Nat.le_add_right _ _)) | with_reducible refine Nat.le_trans ?_ (Nat.le_add_right _ _) | (with_reducible refine bstep ?_ (by assumption))))
  clear hV
  go_wp2_with fail
  refine (HA.out _).mono ?_
  rintro e w1 ⟨rfl, hb1⟩
  have f0 : Below V.heap.size V w1 := bstep (by (repeat (first | with_reducible exact Below.refl _ _ | with_reducible assumption | with_reducible refine balloc ?_ _ | with_reducible refine bdrew ?_ | with_reducible refine below_drewN ?_ _ | with_reducible refine bset ?_ ?_ _ | with_reducible exact Nat.le_refl _ | with_reducible refine bsize ?_ | (dsimp only; refine Nat.le_trans ?_ (Nat.le_add_right _ _)) | with_reducible refine Nat.le_trans ?_ (Nat.le_add_right _ _) | (with_reducible refine bstep ?_ (by assumption))))) hb1
  replace c1 := keepa f0 (by omega) c1
  replace c2 := keepa f0 (by omega) c2
  replace c3 := keepa f0 (by omega) c3
  replace c4 := keepa f0 (by omega) c4
  replace c5 := keepa f0 (by omega) c5
  replace c6 := keepa f0 (by omega) c6
  replace hr := hr.later f0
  replace hbw := bstep hbw f0
  replace hs := Nat.lt_of_lt_of_le hs f0.size
  clear f0 hb1
  go_wp2_with fail
  refine (HP.out _).mono ?_
  rintro e w2 ⟨rfl, hb2⟩
  have f0 : Below w1.heap.size w1 w2 := bstep (by (repeat (first | with_reducible exact Below.refl _ _ | with_reducible assumption | with_reducible refine balloc ?_ _ | with_reducible refine bdrew ?_ | with_reducible refine below_drewN ?_ _ | with_reducible refine bset ?_ ?_ _ | with_reducible exact Nat.le_refl _ | with_reducible refine bsize ?_ | (dsimp only; refine Nat.le_trans ?_ (Nat.le_add_right _ _)) | with_reducible refine Nat.le_trans ?_ (Nat.le_add_right _ _) | (with_reducible refine bstep ?_ (by assumption))))) hb2
  replace c1 := keepa f0 (by omega) c1
  replace c2 := keepa f0 (by omega) c2
  replace c3 := keepa f0 (by omega) c3
  replace c4 := keepa f0 (by omega) c4
  replace c5 := keepa f0 (by omega) c5
  replace c6 := keepa f0 (by omega) c6
  replace hr := hr.later f0
  replace hbw := bstep hbw f0
  replace hs := Nat.lt_of_lt_of_le hs f0.size
  clear f0 hb2
  go_upto_region 3 with fail
  go_cut [8, 9] (fun s8 s9 wx => ∃ b1 b2 : Nat, s8 = .pointer (some ⟨b1, 0, none⟩) ∧ s9 = .pointer (some ⟨b2, 0, none⟩) ∧ GfSt w wx b1 b2 L E p q 0 1 n d ∧ Below w2.heap.size w2 wx)
  case first =>
    have hs1 : w.heap.size + 1 + 1 < w2.heap.size := by omega
    have hbz : ∀ W, Below w2.heap.size w2 W → Below w.heap.size w W := fun W h => bstep hbw h
    have hS3 := Lib.hid (fun (W : World) (h : Below w2.heap.size w2 W) => (⟨keepa h hs1 c5, keepa h hs1 c6⟩ : W.cell? ⟨w.heap.size + 1 + 1, 0, none⟩ = some (.int .i64 n) ∧ W.cell? ⟨w.heap.size + 1 + 1, 1, none⟩ = some (.int .i64 d)))
    go_region_held3 (fun W => W.cell? ⟨w.heap.size + 1 + 1, 0, none⟩ = some (.int .i64 n) ∧ W.cell? ⟨w.heap.size + 1 + 1, 1, none⟩ = some (.int .i64 d)) ((refine hS3.out _ ?_; (repeat (first | with_reducible exact Below.refl _ _ | with_reducible assumption | with_reducible refine balloc ?_ _ | with_reducible refine bdrew ?_ | with_reducible refine below_drewN ?_ _ | with_reducible refine bset ?_ ?_ _ | with_reducible exact Nat.le_refl _ | with_reducible refine bsize ?_ | (dsimp only; refine Nat.le_trans ?_ (Nat.le_add_right _ _)) | with_reducible refine Nat.le_trans ?_ (Nat.le_add_right _ _) | (with_reducible refine bstep ?_ (by assumption)))))) (fail)
    all_goals (go_wp2_with fail; go_meet)
    all_goals refine ⟨_, _, rfl, rfl, ⟨keepa (W0 := w2) (by (repeat (first | with_reducible exact Below.refl _ _ | with_reducible assumption | with_reducible refine balloc ?_ _ | with_reducible refine bdrew ?_ | with_reducible refine below_drewN ?_ _ | with_reducible refine bset ?_ ?_ _ | with_reducible exact Nat.le_refl _ | with_reducible refine bsize ?_ | (dsimp only; refine Nat.le_trans ?_ (Nat.le_add_right _ _)) | with_reducible refine Nat.le_trans ?_ (Nat.le_add_right _ _) | (with_reducible refine bstep ?_ (by assumption))))) (by omega) c1, keepa (W0 := w2) (by (repeat (first | with_reducible exact Below.refl _ _ | with_reducible assumption | with_reducible refine balloc ?_ _ | with_reducible refine bdrew ?_ | with_reducible refine below_drewN ?_ _ | with_reducible refine bset ?_ ?_ _ | with_reducible exact Nat.le_refl _ | with_reducible refine bsize ?_ | (dsimp only; refine Nat.le_trans ?_ (Nat.le_add_right _ _)) | with_reducible refine Nat.le_trans ?_ (Nat.le_add_right _ _) | (with_reducible refine bstep ?_ (by assumption))))) (by omega) c2, keepa (W0 := w2) (by (repeat (first | with_reducible exact Below.refl _ _ | with_reducible assumption | with_reducible refine balloc ?_ _ | with_reducible refine bdrew ?_ | with_reducible refine below_drewN ?_ _ | with_reducible refine bset ?_ ?_ _ | with_reducible exact Nat.le_refl _ | with_reducible refine bsize ?_ | (dsimp only; refine Nat.le_trans ?_ (Nat.le_add_right _ _)) | with_reducible refine Nat.le_trans ?_ (Nat.le_add_right _ _) | (with_reducible refine bstep ?_ (by assumption))))) (by omega) c3, keepa (W0 := w2) (by (repeat (first | with_reducible exact Below.refl _ _ | with_reducible assumption | with_reducible refine balloc ?_ _ | with_reducible refine bdrew ?_ | with_reducible refine below_drewN ?_ _ | with_reducible refine bset ?_ ?_ _ | with_reducible exact Nat.le_refl _ | with_reducible refine bsize ?_ | (dsimp only; refine Nat.le_trans ?_ (Nat.le_add_right _ _)) | with_reducible refine Nat.le_trans ?_ (Nat.le_add_right _ _) | (with_reducible refine bstep ?_ (by assumption))))) (by omega) c4, ?_, ?_, ?_, ?_, ?_, ?_, ?_, ?_, hr.later (by (repeat (first | with_reducible exact Below.refl _ _ | with_reducible assumption | with_reducible refine balloc ?_ _ | with_reducible refine bdrew ?_ | with_reducible refine below_drewN ?_ _ | with_reducible refine bset ?_ ?_ _ | with_reducible exact Nat.le_refl _ | with_reducible refine bsize ?_ | (dsimp only; refine Nat.le_trans ?_ (Nat.le_add_right _ _)) | with_reducible refine Nat.le_trans ?_ (Nat.le_add_right _ _) | (with_reducible refine bstep ?_ (by assumption))))), ?_, ?_, ?_, ?_, ?_, hbz _ (by (repeat (first | with_reducible exact Below.refl _ _ | with_reducible assumption | with_reducible refine balloc ?_ _ | with_reducible refine bdrew ?_ | with_reducible refine below_drewN ?_ _ | with_reducible refine bset ?_ ?_ _ | with_reducible exact Nat.le_refl _ | with_reducible refine bsize ?_ | (dsimp only; refine Nat.le_trans ?_ (Nat.le_add_right _ _)) | with_reducible refine Nat.le_trans ?_ (Nat.le_add_right _ _) | (with_reducible refine bstep ?_ (by assumption)))))⟩, by (repeat (first | with_reducible exact Below.refl _ _ | with_reducible assumption | with_reducible refine balloc ?_ _ | with_reducible refine bdrew ?_ | with_reducible refine below_drewN ?_ _ | with_reducible refine bset ?_ ?_ _ | with_reducible exact Nat.le_refl _ | with_reducible refine bsize ?_ | (dsimp only; refine Nat.le_trans ?_ (Nat.le_add_right _ _)) | with_reducible refine Nat.le_trans ?_ (Nat.le_add_right _ _) | (with_reducible refine bstep ?_ (by assumption))))⟩
    all_goals first | (simp [go_sem]; done) | omega | (simp; omega)
  case rest =>
    obtain ⟨b1, b2, rfl, rfl, hG, hf⟩ := hcut
    replace c5 := keepa hf (by omega) c5
    replace c6 := keepa hf (by omega) c6
    have hs2 : w.heap.size + 1 + 1 < wc.heap.size := by have := hf.size; omega
    clear c1 c2 c3 c4 hr hs hbw hf
    have hGo := hG
    obtain ⟨a1, a2, a3, a4, a5, a6, a7, a8, a9, a10, a11, a12, ar, a13, a14, a15, a16, a17, a18⟩ := hGo
    go_wp2_with fail
    refine (HT.out _).mono ?_
    rintro e w5 ⟨rfl, hb5⟩
    have hG5 := hG.later (bstep (by (repeat (first | with_reducible exact Below.refl _ _ | with_reducible assumption | with_reducible refine balloc ?_ _ | with_reducible refine bdrew ?_ | with_reducible refine below_drewN ?_ _ | with_reducible refine bset ?_ ?_ _ | with_reducible exact Nat.le_refl _ | with_reducible refine bsize ?_ | (dsimp only; refine Nat.le_trans ?_ (Nat.le_add_right _ _)) | with_reducible refine Nat.le_trans ?_ (Nat.le_add_right _ _) | (with_reducible refine bstep ?_ (by assumption))))) hb5)
    clear c5 c6 hb5 hs2 hG
    clear a1 a2 a3 a4 a5 a6 a7 a8 a9 a10 a11 a12
    clear a18 ar a13 a14 a15 a16 a17
    go_wp2_with fail
    go_loopw [10] (fun c wr => ∃ (k : Nat) (U x y g h : Int), t ≤ k + 1 ∧ k ≤ 6 ∧ c = .int .i64 ((k : Int) + 1) ∧ (k < 6 → GfAt L E d n k U x y g h) ∧ (k + 1 = t ∨ dC k * lq < FW) ∧ GfSt w wr b1 b2 L E p q x y g h) (fun c _ => 7 - (intOf c).toNat)
    case atStart =>
      obtain ⟨k, rfl⟩ : ∃ k, t = k + 1 := ⟨t - 1, by omega⟩
      exact ⟨k, n, 0, 1, n, d, by omega, by omega, by simp, fun _ => gf_start HH.out k rfl, Or.inl rfl, hG5⟩
    case round =>
      obtain ⟨k, U, x, y, g, h, htk, hk6, rfl, hAt, hlo, hG⟩ := hrel
      clear hG5
      by_cases hk : k < 6
      · have H := HH.out
        have hA := hAt hk
        have B := gf_b H hA
        have hN := gf_next H k U g h hA.at_ _ rfl
        rw [← hA.ex, ← hA.ey] at hN
        have hbd := gf_bd H (((k : Int) + 1) * (L * d)) n (by have := hA.at_.hi; have := hA.nU; omega)
        have n1 := mul_le2 p _ 1000000000 498960 y1 y2 (by omega) hbd.2.2.2
        have n2 := mul_le2 _ q 937152 1000000 hbd.1 hbd.2.1 (by omega) i6
        have eR : (2 * ((k : Int) + 1) - 1) * E = (2 * (k : Int) + 1) * E := by congr 1; omega
        have HR := Lib.hid (fun W => rate_spec L E ((k : Int) + 1) (by omega) (by omega) j3 j4 W)
        rw [eR] at HR
        have HF := Lib.hid (fun W => fur_spec _ _ _ _ B.fur W)
        rw [hN.1, hN.2] at HF
        have hT := HI.out k hk
        have HC := Lib.hid (gf_c H hA p q y1 y2 y3 i6 _ rfl)
        have HO := Lib.hid (fun W => fur_spec _ _ _ _ B.fur2 W)
        have HLk := Lib.hid (HL.out k U g h hA.at_ _ rfl _ rfl)
        rw [← hA.ex, ← hA.ey] at HLk
        have HON := Lib.hid (fun hk7 : k + 1 < 6 => gf_on H (k + 1) hk7 htk)
        have ek : ((k + 1 : Nat) : Int) = (k : Int) + 1 := by omega
        rw [ek] at HON
        obtain ⟨v1, v2, v3, v4, v5, v6, v7, v8, v9, v10, v11, v12, v13, _, v14, v15, _⟩ := B
        obtain ⟨n1, n1'⟩ := n1
        obtain ⟨n2, n2'⟩ := n2
        generalize rdN (dS (L * d) (((k : Int) + 1) * (L * d)) - dS (L * d) n) (3465 * (d * E)) = x' at *
        generalize rdD (dS (L * d) (((k : Int) + 1) * (L * d)) - dS (L * d) n) (3465 * (d * E)) = y' at *
        generalize (2 * (k : Int) + 1) * E = R at *
        have wq0 : IntKind.i64.wrap (((k : Int) + 1) * L) = ((k : Int) + 1) * L := IntWalk.i64_in _ (by omega)
        have hT0 : (1 : Int) ≤ (k : Int) + 1 := by omega
        have hT1 : (k : Int) + 1 ≤ 6 := by omega
        have hg0 := hA.g0
        have hg1 := hA.g1
        have hh1 := hA.h1
        have hh2 := hA.h2
        have HLO := Lib.hid hlo
        have HTT := Lib.hid hT
        clear hN hbd eR hA hAt hlo hT ek H
        have hS := Lib.hid (fun (W : World) (hh : GfSt w W b1 b2 L E p q x y g h) => (⟨hh.c0, hh.c1⟩ : W.cell? ⟨w.heap.size, 0, none⟩ = some (.int .i64 L) ∧ W.cell? ⟨w.heap.size, 1, none⟩ = some (.int .i64 E)))
        go_upto_region 7 with fail
        go_region_held3 (fun W => W.cell? ⟨w.heap.size, 0, none⟩ = some (.int .i64 L) ∧ W.cell? ⟨w.heap.size, 1, none⟩ = some (.int .i64 E)) ((refine hS.out _ ?_; first | with_reducible assumption | with_reducible exact GfSt.drew (by with_reducible assumption)))
          (first | (go_at_call 69; refine (HR.out _).mono ?_; rintro e w6 ⟨rfl, hb6⟩; (have hG6 := hG.later (bstep (by (repeat (first | with_reducible exact Below.refl _ _ | with_reducible assumption | with_reducible refine balloc ?_ _ | with_reducible refine bdrew ?_ | with_reducible refine below_drewN ?_ _ | with_reducible refine bset ?_ ?_ _ | with_reducible exact Nat.le_refl _ | with_reducible refine bsize ?_ | (dsimp only; refine Nat.le_trans ?_ (Nat.le_add_right _ _)) | with_reducible refine Nat.le_trans ?_ (Nat.le_add_right _ _) | (with_reducible refine bstep ?_ (by assumption))))) hb6))))
        all_goals
          clear wq0
          generalize hmm : ((k : Int) + 1) * L = mm at *
          have HMM := Lib.hid hmm
          clear hmm
          have hGo := hG6
          obtain ⟨a1, a2, a3, a4, a5, a6, a7, a8, a9, a10, a11, a12, ar, a13, a14, a15, a16, a17, a18⟩ := hGo
          by_cases hc : p * y' ≤ x' * q
          · have hl1 := HTT.out.1 hc
            have hl0 : dC k * lq ≤ FW := by
              rcases HLO.out with e | e
              · exact HD0.out k e
              · omega
            have hv := HLk.out hl0 hl1 _ _ rfl rfl
            have hK := HK1.out (Int.le_trans hl1 (HD.out k hk))
            have HC' := HC.out
            have HM := Lib.hid (fun W => made_spec (rdN (g * y + -R * x * h) (y * h) * q + R * p * rdD (g * y + -R * x * h) (y * h)) (rdD (g * y + -R * x * h) (y * h) * q) HC'.u0 HC'.u1 HC'.t1 W)
            rw [hv.1, hv.2.1, hv.2.2] at HM
            obtain ⟨t0, t1, t2, t3, t4, t5, t6, t7, t8, t9⟩ := HC'
            subst hK
            clear hv hl0 hl1
            generalize rdN (g * y + -R * x * h) (y * h) = aa at *
            generalize rdD (g * y + -R * x * h) (y * h) = cc at *
            go_wp2_with fail
            refine (HF.out _).mono ?_
            rintro e w7 ⟨rfl, hb7⟩
            have hG7 := hG6.later (bstep (by (repeat (first | with_reducible exact Below.refl _ _ | with_reducible assumption | with_reducible refine balloc ?_ _ | with_reducible refine bdrew ?_ | with_reducible refine below_drewN ?_ _ | with_reducible refine bset ?_ ?_ _ | with_reducible exact Nat.le_refl _ | with_reducible refine bsize ?_ | (dsimp only; refine Nat.le_trans ?_ (Nat.le_add_right _ _)) | with_reducible refine Nat.le_trans ?_ (Nat.le_add_right _ _) | (with_reducible refine bstep ?_ (by assumption))))) hb7)
            clear a1 a2 a3 a4 a5 a6 a7 a8 a9 a10 a11 a12
            clear ar a13 a14 a15 a16 a17 a18
            have hGo := hG7
            obtain ⟨z1, z2, z3, z4, z5, z6, z7, z8, z9, z10, z11, z12, zr, z13, z14, z15, z16, z17, z18⟩ := hGo
            have hq0 : w.heap.size < w7.heap.size := by omega
            have hq1 : w.heap.size + 1 < w7.heap.size := by omega
            go_wp2_with fail
            refine (HO.out _).mono ?_
            rintro e w8 ⟨rfl, hb8⟩
            have hG8 := hG7.later (bstep (by (repeat (first | with_reducible exact Below.refl _ _ | with_reducible assumption | with_reducible refine balloc ?_ _ | with_reducible refine bdrew ?_ | with_reducible refine below_drewN ?_ _ | with_reducible refine bset ?_ ?_ _ | with_reducible exact Nat.le_refl _ | with_reducible refine bsize ?_ | (dsimp only; refine Nat.le_trans ?_ (Nat.le_add_right _ _)) | with_reducible refine Nat.le_trans ?_ (Nat.le_add_right _ _) | (with_reducible refine bstep ?_ (by assumption))))) hb8)
            clear z1 z2 z3 z4 z5 z6 z7 z8 z9 z10 z11 z12
            clear zr z13 z14 z15 z16 z17 z18 hq0 hq1 hb8 hb7 hG7
            have hGo := hG8
            obtain ⟨z1, z2, z3, z4, z5, z6, z7, z8, z9, z10, z11, z12, zr, z13, z14, z15, z16, z17, z18⟩ := hGo
            have hq0 : w.heap.size < w8.heap.size := by omega
            have hq1 : w.heap.size + 1 < w8.heap.size := by omega
            go_wp2_with fail
            refine (HM.out _).mono ?_
            rintro e w9 ⟨rfl, hb9⟩
            have hG9 := hG8.later (bstep (by (repeat (first | with_reducible exact Below.refl _ _ | with_reducible assumption | with_reducible refine balloc ?_ _ | with_reducible refine bdrew ?_ | with_reducible refine below_drewN ?_ _ | with_reducible refine bset ?_ ?_ _ | with_reducible exact Nat.le_refl _ | with_reducible refine bsize ?_ | (dsimp only; refine Nat.le_trans ?_ (Nat.le_add_right _ _)) | with_reducible refine Nat.le_trans ?_ (Nat.le_add_right _ _) | (with_reducible refine bstep ?_ (by assumption))))) hb9)
            obtain ⟨rx, ry, r1, r2, r3, r4, r5⟩ := hG9.res
            have hbw := hG9.bel
            go_wp2
            refine bodyPost_ret (v := .tuple #[.agg #[.int .i64 (lowN (X) (M)), .int .i64 (lowD (X) (M))], .bool (lowB (X) (M))]) (by simp only [results, Try.results31]; go_simp) rfl ⟨by rw [(two_yes X M).1, (two_yes X M).2.1, (two_yes X M).2.2], ?_⟩
            (repeat (first | with_reducible exact Below.refl _ _ | with_reducible assumption | with_reducible refine balloc ?_ _ | with_reducible refine bdrew ?_ | with_reducible refine below_drewN ?_ _ | with_reducible refine bset ?_ ?_ _ | with_reducible exact Nat.le_refl _ | with_reducible refine bsize ?_ | (dsimp only; refine Nat.le_trans ?_ (Nat.le_add_right _ _)) | with_reducible refine Nat.le_trans ?_ (Nat.le_add_right _ _) | (with_reducible refine bstep ?_ (by assumption))))
          · have HCC := Lib.hid hc
            have hc' : x' * q < p * y' := by omega
            go_wp2_with fail
            refine (HF.out _).mono ?_
            rintro e w7 ⟨rfl, hb7⟩
            have hG7 := hG6.later (bstep (by (repeat (first | with_reducible exact Below.refl _ _ | with_reducible assumption | with_reducible refine balloc ?_ _ | with_reducible refine bdrew ?_ | with_reducible refine below_drewN ?_ _ | with_reducible refine bset ?_ ?_ _ | with_reducible exact Nat.le_refl _ | with_reducible refine bsize ?_ | (dsimp only; refine Nat.le_trans ?_ (Nat.le_add_right _ _)) | with_reducible refine Nat.le_trans ?_ (Nat.le_add_right _ _) | (with_reducible refine bstep ?_ (by assumption))))) hb7)
            clear a1 a2 a3 a4 a5 a6 a7 a8 a9 a10 a11 a12
            clear ar a13 a14 a15 a16 a17 a18
            have hGo := hG7
            obtain ⟨z1, z2, z3, z4, z5, z6, z7, z8, z9, z10, z11, z12, zr, z13, z14, z15, z16, z17, z18⟩ := hGo
            have hq0 : w.heap.size < w7.heap.size := by omega
            have hq1 : w.heap.size + 1 < w7.heap.size := by omega
            go_wp2
            go_roundw
            case rel =>
              refine ⟨k + 1, ((k : Int) + 1) * (L * d), x', y', mm, 1, by omega, by omega, by simp, fun hk7 => ?_, Or.inr ?_, ?_⟩
              · exact HON.out hk7
              · have := HTT.out; have := HCC.out; omega
              · exact (GfSt.setG (GfSt.setX hG7 x' y') mm 1).later (balloc (Below.refl _ _) _)
            case measure => simp [intOf]; omega
      · have hk' : k = 6 := by omega
        subst hk'
        have hK := HK0.out (by
          rcases hlo with e | e
          · omega
          · simp only [dC] at e; omega)
        subst hK
        have hGo := hG
        obtain ⟨a1, a2, a3, a4, a5, a6, a7, a8, a9, a10, a11, a12, ar, a13, a14, a15, a16, a17, a18⟩ := hGo
        obtain ⟨rx, ry, r1, r2, r3, r4, r5⟩ := ar
        go_wp2
        refine bodyPost_ret (v := .tuple #[.agg #[.int .i64 0, .int .i64 0], .bool false]) (by simp only [results, Try.results31]; go_simp) rfl ⟨by rw [(two_no X M).1, (two_no X M).2.1, (two_no X M).2.2], ?_⟩
        (repeat (first | with_reducible exact Below.refl _ _ | with_reducible assumption | with_reducible refine balloc ?_ _ | with_reducible refine bdrew ?_ | with_reducible refine below_drewN ?_ _ | with_reducible refine bset ?_ ?_ _ | with_reducible exact Nat.le_refl _ | with_reducible refine bsize ?_ | (dsimp only; refine Nat.le_trans ?_ (Nat.le_add_right _ _)) | with_reducible refine Nat.le_trans ?_ (Nat.le_add_right _ _) | (with_reducible refine bstep ?_ (by assumption))))
end Go.Proofs.Ytkignanlkakdpaa
