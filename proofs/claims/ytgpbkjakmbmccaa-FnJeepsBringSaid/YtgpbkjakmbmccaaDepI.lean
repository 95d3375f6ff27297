/- Contracts of what the program's depots are made with: together, tankLessTwice, the fuel at each. -/
import Derived.Test.YtgpbkjakmbmccaaDepP
import Derived.Test.YtgpbkjakmbmccaaReck2
import Derived.Test.YtgpbkjakmbmccaaReck3
import Derived.Deep.RegionWith
import Derived.Deep.DeepCutAuto
namespace Go.Proofs.Ytgpbkjakmbmccaa
open Go.ChangeShapes Go.WideShapes Go.ChangeAt Go.RowKit Go.Joins
set_option maxRecDepth 100000
set_option linter.unusedVariables false
set_option linter.unusedSimpArgs false

set_option maxHeartbeats 800000 in
theorem together_impl (v : Value) (l : List (Int × Int)) (w : World) (h : RowG 2 fAmt w v l) (h50 : l.length ≤ 50) :
    Calls Try.prog 92 #[v] w fun e w' => e = .returned (.agg #[.int .i64 (oN (sumL l 0 1)), .int .i64 (oD (sumL l 0 1))]) ∧ Below w.heap.size w w' := by
  have hsh : ∃ a cap, v = .slice a l.length cap := by
    rcases h with ⟨rfl, rfl⟩ | ⟨a, cap, rfl, _⟩
    · exact ⟨none, 0, rfl⟩
    · exact ⟨_, _, rfl⟩
  obtain ⟨a, cap, rfl⟩ := hsh
  have hcon := fun (W : World) (h : RowG 2 fAmt W (.slice a l.length cap) l) => sum_row _ l W h h50
  have HC := Lib.hid hcon
  have HR := Lib.hid h
  clear hcon h
  go_enter Try.func92, Try.ntmps92
  go_wp2_with fail
  refine (HC.out _ ?_).mono ?_
  · rcases HR.out with ⟨h1, h2⟩ | ⟨a', cap', h1, h2⟩
    · exact Or.inl ⟨h1, h2⟩
    · exact Or.inr ⟨a', cap', h1, liesG_below h2 (by (repeat (first | with_reducible exact Below.refl _ _ | with_reducible assumption | with_reducible refine balloc ?_ _ | with_reducible refine bdrew ?_ | with_reducible refine below_drewN ?_ _ | with_reducible refine bset ?_ ?_ _ | with_reducible exact Nat.le_refl _ | with_reducible refine bsize ?_ | (dsimp only; refine Nat.le_trans ?_ (Nat.le_add_right _ _)) | with_reducible refine Nat.le_trans ?_ (Nat.le_add_right _ _) | (with_reducible refine bstep ?_ (by assumption)))))⟩
  rintro e w3 ⟨rfl, hb3⟩
  obtain ⟨kc3, kf3, kz3, ky3, kx3, kv3, ku3⟩ := bcell hb3
  go_wp2
  refine bodyPost_ret (v := .agg #[.int .i64 (oN (sumL l 0 1)), .int .i64 (oD (sumL l 0 1))]) (by simp only [results, Try.results92]; go_simp) rfl ⟨rfl, ?_⟩
  (repeat (first | with_reducible exact Below.refl _ _ | with_reducible assumption | with_reducible refine balloc ?_ _ | with_reducible refine bdrew ?_ | with_reducible refine below_drewN ?_ _ | with_reducible refine bset ?_ ?_ _ | with_reducible exact Nat.le_refl _ | with_reducible refine bsize ?_ | (dsimp only; refine Nat.le_trans ?_ (Nat.le_add_right _ _)) | with_reducible refine Nat.le_trans ?_ (Nat.le_add_right _ _) | (with_reducible refine bstep ?_ (by assumption))))
theorem fuelOut_impl (k : Nat) (p q : Int) (w : World) :
    Calls Try.prog 56 #[.int .i64 k, .agg #[.int .i64 p, .int .i64 q]] w fun e w' => e = .returned (.agg #[.int .i64 k, .int .i64 1]) ∧ Below w.heap.size w w' := by
  go_enter Try.func56, Try.ntmps56
  go_wp2_with (go_at_call 52; refine (whole_is_impl _ _).mono ?_; rintro e w1 ⟨rfl, rfl⟩)
  refine bodyPost_ret (v := .agg #[.int .i64 k, .int .i64 1]) (by simp only [results, Try.results56]; go_simp) rfl ⟨rfl, ?_⟩
  (repeat (first | with_reducible exact Below.refl _ _ | with_reducible assumption | with_reducible refine balloc ?_ _ | with_reducible refine bdrew ?_ | with_reducible refine below_drewN ?_ _ | with_reducible refine bset ?_ ?_ _ | with_reducible exact Nat.le_refl _ | with_reducible refine bsize ?_ | (dsimp only; refine Nat.le_trans ?_ (Nat.le_add_right _ _)) | with_reducible refine Nat.le_trans ?_ (Nat.le_add_right _ _) | (with_reducible refine bstep ?_ (by assumption))))

/-- A tank less twice 1 / q. -/
def tlOk (q : Int) : Bool := okk 1 1 1 q && twoB (okk 1 1 1 q) (1 * q - 1 * 1) (1 * q) && twoN (okk 1 1 1 q) (1 * q - 1 * 1) (1 * q) == q - 1 && twoD (okk 1 1 1 q) (1 * q - 1 * 1) (1 * q) == q &&
  twoB (okk (q - 1) q 1 q) ((q - 1) * q - 1 * q) (q * q) && twoN (okk (q - 1) q 1 q) ((q - 1) * q - 1 * q) (q * q) == lowN (q - 2) q && twoD (okk (q - 1) q 1 q) ((q - 1) * q - 1 * q) (q * q) == lowD (q - 2) q
theorem tl_all : ∀ k : Nat, k < 25 → 2 ≤ k → tlOk k = true := by decide +kernel
structure TlSt (q : Int) : Prop where
  b1 : twoB (okk 1 1 1 q) (1 * q - 1 * 1) (1 * q) = true
  n1 : twoN (okk 1 1 1 q) (1 * q - 1 * 1) (1 * q) = q - 1
  d1 : twoD (okk 1 1 1 q) (1 * q - 1 * 1) (1 * q) = q
  b2 : twoB (okk (q - 1) q 1 q) ((q - 1) * q - 1 * q) (q * q) = true
  n2 : twoN (okk (q - 1) q 1 q) ((q - 1) * q - 1 * q) (q * q) = lowN (q - 2) q
  d2 : twoD (okk (q - 1) q 1 q) ((q - 1) * q - 1 * q) (q * q) = lowD (q - 2) q
theorem tl_of (q : Int) (h2 : 2 ≤ q) (h24 : q ≤ 24) : TlSt q := by
  have hs := tl_all q.toNat (by omega) (by omega)
  rw [Int.toNat_of_nonneg (by omega)] at hs
  simp only [tlOk, Bool.and_eq_true, beq_iff_eq] at hs
  exact ⟨hs.1.1.1.1.1.2, hs.1.1.1.1.2, hs.1.1.1.2, hs.1.1.2, hs.1.2, hs.2⟩
def tltV (w : World) (q : Int) : World := (w.alloc (.cells #[.int .i64 1, .int .i64 q] 26)).alloc (.cells #[.int .i64 0, .int .i64 0] 26)
structure TltV (w V : World) (q : Int) : Prop where
  c1 : V.cell? ⟨w.heap.size, 0, none⟩ = some (.int .i64 1)
  c2 : V.cell? ⟨w.heap.size, 1, none⟩ = some (.int .i64 q)
  r1 : V.cell? ⟨w.heap.size + 1, 0, none⟩ = some (.int .i64 0)
  r2 : V.cell? ⟨w.heap.size + 1, 1, none⟩ = some (.int .i64 0)
  r3 : V.frozen? ⟨w.heap.size + 1, 0, none⟩ = false
  r4 : V.frozen? ⟨w.heap.size + 1, 1, none⟩ = false
  hs : w.heap.size + 1 < V.heap.size
  below : Below w.heap.size w V
theorem tltV_is (w : World) (q : Int) : TltV w (tltV w q) q := by
  unfold tltV
  refine ⟨by simp, by simp, by simp, by simp, by simp, by simp, by simp, ?_⟩
  (repeat (first | with_reducible exact Below.refl _ _ | with_reducible assumption | with_reducible refine balloc ?_ _ | with_reducible refine bdrew ?_ | with_reducible refine below_drewN ?_ _ | with_reducible refine bset ?_ ?_ _ | with_reducible exact Nat.le_refl _ | with_reducible refine bsize ?_ | (dsimp only; refine Nat.le_trans ?_ (Nat.le_add_right _ _)) | with_reducible refine Nat.le_trans ?_ (Nat.le_add_right _ _) | (with_reducible refine bstep ?_ (by assumption))))
/-- What a region leaves in a variable of its own, and a bool. -/
def LeftAt (N D : Int) (V : World) (s3 s4 : Value) (wx : World) : Prop :=
  ∃ g : Nat, s3 = .pointer (some ⟨g, 0, none⟩) ∧ s4 = .bool true ∧ wx.cell? ⟨g, 0, none⟩ = some (.int .i64 N) ∧ wx.cell? ⟨g, 1, none⟩ = some (.int .i64 D) ∧ wx.frozen? ⟨g, 0, none⟩ = false ∧ wx.frozen? ⟨g, 1, none⟩ = false ∧
    V.heap.size ≤ g ∧ g < wx.heap.size ∧ Below V.heap.size V wx
set_option maxHeartbeats 1600000 in
theorem tlt_impl (q : Int) (h2 : 2 ≤ q) (h24 : q ≤ 24) (w : World) :
    Calls Try.prog 63 #[.agg #[.int .i64 1, .int .i64 q]] w fun e w' => e = .returned (.agg #[.int .i64 (lowN (q - 2) q), .int .i64 (lowD (q - 2) q)]) ∧ Below w.heap.size w w' := by
  obtain ⟨b1, n1, d1, b2, n2, d2⟩ := tl_of q h2 h24
  have hc1 := fun W => minus_pub_impl 1 1 1 q (by omega) (by omega) (by omega) (by omega) W
  have hc2 := fun W => minus_pub_impl (q - 1) q 1 q (by omega) (by omega) (by omega) (by omega) W
  rw [b1, n1, d1] at hc1
  rw [b2, n2, d2] at hc2
  have H1 := Lib.hid hc1
  have H2 := Lib.hid hc2
  clear hc1 hc2 b1 n1 d1 b2 n2 d2
  generalize lowN (q - 2) q = X at *
  generalize lowD (q - 2) q = Y at *
  generalize q - 1 = q1 at *
  go_enter Try.func63, Try.ntmps63
  go_upto_region 1 with fail
  go_cut [3, 4] (LeftAt q1 q (tltV w q))
  case first =>
    have hV := tltV_is w q
    change Code.wp _ _ _ _ (tltV w q)
    generalize tltV w q = V at *
    obtain ⟨c1, c2, r1, r2, r3, r4, hs, hbw⟩ := hV
    have a0 : w.heap.size < V.heap.size := by omega
    first | (go_region_with (first | (go_at_call 52; refine (whole_is_impl _ _).mono ?_; rintro e w1 ⟨rfl, rfl⟩) | (go_at_call 28; refine (H1.out _).mono ?_; rintro e w2 ⟨rfl, hb2⟩; obtain ⟨kc2, kf2, kz2, ky2, kx2, kv2, ku2⟩ := bcell hb2))) | fail
    all_goals (go_wp2_with fail; go_meet)
    all_goals refine ⟨_, rfl, rfl, ?_, ?_, ?_, ?_, ?_, ?_, ?_⟩
    all_goals first | ((repeat (first | with_reducible exact Below.refl _ _ | with_reducible assumption | with_reducible refine balloc ?_ _ | with_reducible refine bdrew ?_ | with_reducible refine below_drewN ?_ _ | with_reducible refine bset ?_ ?_ _ | with_reducible exact Nat.le_refl _ | with_reducible refine bsize ?_ | (dsimp only; refine Nat.le_trans ?_ (Nat.le_add_right _ _)) | with_reducible refine Nat.le_trans ?_ (Nat.le_add_right _ _) | (with_reducible refine bstep ?_ (by assumption)))); done) | (simp [go_sem, kc2, kz2, ky2, kf2]; done) | (simp; omega)
  case rest =>
    obtain ⟨g, rfl, rfl, h0, h1, f0, f1, hgV, hgs, hgb⟩ := hcut
    have hV := tltV_is w q
    generalize tltV w q = V at *
    obtain ⟨c1, c2, r1, r2, r3, r4, hs, hbw⟩ := hV
    have hwc := bstep hbw hgb
    have hwg : w.heap.size ≤ g := by omega
    have ngr : g ≠ w.heap.size + 1 := by omega
    replace c1 := keepa hgb (by omega) c1
    replace c2 := keepa hgb (by omega) c2
    replace r1 := keepa hgb hs r1
    replace r2 := keepa hgb hs r2
    replace r3 := keepf hgb hs r3
    replace r4 := keepf hgb hs r4
    have hsw : w.heap.size + 1 < wc.heap.size := by have := hgb.size; omega
    clear hgb hbw hgV hs
    go_wp2_with fail
    refine (H2.out _).mono ?_
    rintro e w3 ⟨rfl, hb3⟩
    have ha3 : Below w.heap.size w w3 := by (repeat (first | with_reducible exact Below.refl _ _ | with_reducible assumption | with_reducible refine balloc ?_ _ | with_reducible refine bdrew ?_ | with_reducible refine below_drewN ?_ _ | with_reducible refine bset ?_ ?_ _ | with_reducible exact Nat.le_refl _ | with_reducible refine bsize ?_ | (dsimp only; refine Nat.le_trans ?_ (Nat.le_add_right _ _)) | with_reducible refine Nat.le_trans ?_ (Nat.le_add_right _ _) | (with_reducible refine bstep ?_ (by assumption))))
    have hz3 := hb3.size
    have sg3 : g < w3.heap.size := by omega
    have sr3 : w.heap.size + 1 < w3.heap.size := by omega
    replace h0 := keepa hb3 hgs h0
    replace h1 := keepa hb3 hgs h1
    replace f0 := keepf hb3 hgs f0
    replace f1 := keepf hb3 hgs f1
    replace r1 := keepa hb3 hsw r1
    replace r2 := keepa hb3 hsw r2
    replace r3 := keepf hb3 hsw r3
    replace r4 := keepf hb3 hsw r4
    clear hb3 hz3 hgs hsw hwc c1 c2
    go_wp2
    refine bodyPost_ret (v := .agg #[.int .i64 X, .int .i64 Y]) (by simp only [results, Try.results63]; go_simp) rfl ⟨rfl, ?_⟩
    (repeat (first | with_reducible exact Below.refl _ _ | with_reducible assumption | with_reducible refine balloc ?_ _ | with_reducible refine bdrew ?_ | with_reducible refine below_drewN ?_ _ | with_reducible refine bset ?_ ?_ _ | with_reducible exact Nat.le_refl _ | with_reducible refine bsize ?_ | (dsimp only; refine Nat.le_trans ?_ (Nat.le_add_right _ _)) | with_reducible refine Nat.le_trans ?_ (Nat.le_add_right _ _) | (with_reducible refine bstep ?_ (by assumption))))
    all_goals (first | exact hwg | (simp; done) | (simp; omega))

def fbOk (k : Int) : Bool := twoB (okk k 1 (lowN (2 * k + 2 - 2) (2 * k + 2)) (lowD (2 * k + 2 - 2) (2 * k + 2))) (k * lowN (2 * k + 2 - 2) (2 * k + 2)) (1 * lowD (2 * k + 2 - 2) (2 * k + 2)) &&
  twoN (okk k 1 (lowN (2 * k + 2 - 2) (2 * k + 2)) (lowD (2 * k + 2 - 2) (2 * k + 2))) (k * lowN (2 * k + 2 - 2) (2 * k + 2)) (1 * lowD (2 * k + 2 - 2) (2 * k + 2)) == k * k &&
  twoD (okk k 1 (lowN (2 * k + 2 - 2) (2 * k + 2)) (lowD (2 * k + 2 - 2) (2 * k + 2))) (k * lowN (2 * k + 2 - 2) (2 * k + 2)) (1 * lowD (2 * k + 2 - 2) (2 * k + 2)) == k + 1 &&
  decide (0 ≤ lowN (2 * k + 2 - 2) (2 * k + 2) ∧ lowN (2 * k + 2 - 2) (2 * k + 2) ≤ 100) && decide (0 ≤ lowD (2 * k + 2 - 2) (2 * k + 2) ∧ lowD (2 * k + 2 - 2) (2 * k + 2) ≤ 100)
theorem fb_all : ∀ k : Nat, k < 10 → 1 ≤ k → fbOk k = true := by decide +kernel
set_option maxHeartbeats 1600000 in
theorem fuelBack_impl (k : Nat) (q : Int) (hk1 : 1 ≤ k) (hk2 : k ≤ 9) (hq : q = 2 * (k : Int) + 2) (w : World) :
    Calls Try.prog 62 #[.int .i64 k, .agg #[.int .i64 1, .int .i64 q]] w fun e w' => e = .returned (.agg #[.int .i64 ((k : Int) * k), .int .i64 ((k : Int) + 1)]) ∧ Below w.heap.size w w' := by
  have hs := fb_all k (by omega) hk1
  simp only [fbOk, Bool.and_eq_true, beq_iff_eq, decide_eq_true_eq] at hs
  obtain ⟨⟨⟨⟨s1, s2⟩, s3⟩, s4, s5⟩, s6, s7⟩ := hs
  have ht := fun W => tlt_impl q (by omega) (by omega) W
  rw [← hq] at s1 s2 s3 s4 s5 s6 s7
  have hm := fun W => times_pub_impl k 1 (lowN (q - 2) q) (lowD (q - 2) q) (by omega) (by omega) (by omega) (by omega) W
  rw [s1, s2, s3] at hm
  have HT := Lib.hid ht
  have HM := Lib.hid hm
  clear ht hm s1 s2 s3 s4 s5 s6 s7
  generalize lowN (q - 2) q = X at *
  generalize lowD (q - 2) q = Y at *
  clear hq
  go_enter Try.func62, Try.ntmps62
  go_upto_region 1 with fail
  go_cut [5, 6] (LeftAt ((k : Int) * k) ((k : Int) + 1) (tltV w q))
  case first =>
    have hV := tltV_is w q
    change Code.wp _ _ _ _ (tltV w q)
    generalize tltV w q = V at *
    obtain ⟨c1, c2, r1, r2, r3, r4, hs, hbw⟩ := hV
    have a0 : w.heap.size < V.heap.size := by omega
    first | (go_region_with (first | (go_at_call 52; refine (whole_is_impl _ _).mono ?_; rintro e w1 ⟨rfl, rfl⟩) | (go_at_call 63; refine (HT.out _).mono ?_; rintro e w2 ⟨rfl, hb2⟩; obtain ⟨kc2, kf2, kz2, ky2, kx2, kv2, ku2⟩ := bcell hb2) | (go_at_call 29; refine (HM.out _).mono ?_; rintro e w3 ⟨rfl, hb3⟩; obtain ⟨kc3, kf3, kz3, ky3, kx3, kv3, ku3⟩ := bcell hb3))) | fail
    all_goals (go_wp2_with fail; go_meet)
    all_goals refine ⟨_, rfl, rfl, ?_, ?_, ?_, ?_, ?_, ?_, ?_⟩
    all_goals first | ((repeat (first | with_reducible exact Below.refl _ _ | with_reducible assumption | with_reducible refine balloc ?_ _ | with_reducible refine bdrew ?_ | with_reducible refine below_drewN ?_ _ | with_reducible refine bset ?_ ?_ _ | with_reducible exact Nat.le_refl _ | with_reducible refine bsize ?_ | (dsimp only; refine Nat.le_trans ?_ (Nat.le_add_right _ _)) | with_reducible refine Nat.le_trans ?_ (Nat.le_add_right _ _) | (with_reducible refine bstep ?_ (by assumption)))); done) | (simp [go_sem, kc3, kz3, ky3, kf3]; done) | (simp [go_sem, kc2, kz2, kc3, kz3, ky3, kf3]; done) | (simp; omega) | ((have z2 := kz2 (V.heap.size + 1) (by simp)); (have z3 := kz3 _ z2); (have e0 := (kc3 (V.heap.size + 1) 0 z2).trans (kc2 (V.heap.size + 1) 0 (by simp))); (have e1 := (kc3 (V.heap.size + 1) 1 z2).trans (kc2 (V.heap.size + 1) 1 (by simp))); (have g0 := (kf3 (V.heap.size + 1) 0 z2).trans (kf2 (V.heap.size + 1) 0 (by simp))); (have g1 := (kf3 (V.heap.size + 1) 1 z2).trans (kf2 (V.heap.size + 1) 1 (by simp))); simp [go_sem, e0, e1, g0, g1, z3]; done) | ((have z2 := kz2 V.heap.size (by simp)); (have z3 := kz3 _ z2); (have e0 := (kc3 V.heap.size 0 z2).trans (kc2 V.heap.size 0 (by simp))); (have e1 := (kc3 V.heap.size 1 z2).trans (kc2 V.heap.size 1 (by simp))); (have g0 := (kf3 V.heap.size 0 z2).trans (kf2 V.heap.size 0 (by simp))); (have g1 := (kf3 V.heap.size 1 z2).trans (kf2 V.heap.size 1 (by simp))); simp [go_sem, e0, e1, g0, g1, z3]; done)
  case rest =>
    obtain ⟨g, rfl, rfl, h0, h1, f0, f1, hgV, hgs, hgb⟩ := hcut
    have hV := tltV_is w q
    generalize tltV w q = V at *
    obtain ⟨c1, c2, r1, r2, r3, r4, hs, hbw⟩ := hV
    have hwc := bstep hbw hgb
    have hwg : w.heap.size ≤ g := by omega
    replace r1 := keepa hgb hs r1
    replace r2 := keepa hgb hs r2
    replace r3 := keepf hgb hs r3
    replace r4 := keepf hgb hs r4
    have hsw : w.heap.size + 1 < wc.heap.size := by have := hgb.size; omega
    have ngr : g ≠ w.heap.size + 1 := by omega
    clear hgb hbw hgV hs c1 c2
    go_wp2
    refine bodyPost_ret (v := .agg #[.int .i64 ((k : Int) * k), .int .i64 ((k : Int) + 1)]) (by simp only [results, Try.results62]; go_simp) rfl ⟨rfl, ?_⟩
    (repeat (first | with_reducible exact Below.refl _ _ | with_reducible assumption | with_reducible refine balloc ?_ _ | with_reducible refine bdrew ?_ | with_reducible refine below_drewN ?_ _ | with_reducible refine bset ?_ ?_ _ | with_reducible exact Nat.le_refl _ | with_reducible refine bsize ?_ | (dsimp only; refine Nat.le_trans ?_ (Nat.le_add_right _ _)) | with_reducible refine Nat.le_trans ?_ (Nat.le_add_right _ _) | (with_reducible refine bstep ?_ (by assumption))))
    all_goals (first | exact hwg | (simp; done) | (simp; omega))
end Go.Proofs.Ytgpbkjakmbmccaa
