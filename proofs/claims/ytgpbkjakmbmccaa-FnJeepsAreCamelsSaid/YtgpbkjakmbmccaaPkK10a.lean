/- Several texts in one, in their order. -/
import Derived.Test.YtgpbkjakmbmccaaReckNo
import Derived.Test.YtgpbkjakmbmccaaDepP
import Derived.Test.YtgpbkjakmbmccaaReck3
import Derived.Deep.RegionWith
import Derived.Deep.DeepCutAuto
import Derived.Test.YtgpbkjakmbmccaaDepS
import Derived.Test.YtgpbkjakmbmccaaCamX
import Derived.Test.YtgpbkjakmbmccaaCamK
import Derived.Test.YtgpbkjakmbmccaaFarO
import Derived.Test.YtgpbkjakmbmccaaMake
import Derived.Test.YtgpbkjakmbmccaaRow
import Derived.Deep.RegionHeld3
import Derived.Test.YtgpbkjakmbmccaaBase
/- The contracts of reckon at minus, and of LessAmount, of the program, over the translated program. -/
namespace Go.Proofs.Ytgpbkjakmbmccaa
open Go.RowKit
set_option linter.unusedSimpArgs false
set_option linter.unusedVariables false

set_option maxHeartbeats 400000 in
theorem reckon_minus (n d p q : Int) (h1 : amB n d = true) (h2 : amB p q = true) (w : World) :
    Calls Try.prog 69 #[.agg #[.int .i64 n, .int .i64 d], .agg #[.int .i64 p, .int .i64 q], .func (.func 70) #[] #[]] w fun e w' => e = .returned (.tuple #[.agg #[.int .i64 (lowN (n * q - p * d) (d * q)), .int .i64 (lowD (n * q - p * d) (d * q))], .bool (lowB (n * q - p * d) (d * q))]) ∧ Below w.heap.size w w' := by
  have ha := am_of n d h1
  have hb := am_of p q h2
  have b1 := ha.b
  have b2 := ha.d
  have b3 := hb.b
  have b4 := hb.d
  go_enter Try.func69, Try.ntmps69
  (go_wp2_with fail; refine (isam_impl _ _ (by omega) (by omega) _).mono ?_; rintro e w1 ⟨rfl, hb1⟩; rw [h1]; have ha1 := hb1; obtain ⟨kc1, kf1, kz1, ky1, kx1, kv1, ku1⟩ := bcell hb1)
  (go_wp2_with fail; refine (isam_impl _ _ (by omega) (by omega) _).mono ?_; rintro e w2 ⟨rfl, hb2⟩; rw [h2]; have ha2 := bjoin ha1 hb2 (by (repeat (first | with_reducible exact Below.refl _ _ | with_reducible assumption | with_reducible refine balloc ?_ _ | with_reducible refine bdrew ?_ | with_reducible refine below_drewN ?_ _ | with_reducible refine bset ?_ ?_ _ | with_reducible exact Nat.le_refl _ | with_reducible refine bsize ?_ | (dsimp only; refine Nat.le_trans ?_ (Nat.le_add_right _ _)) | with_reducible refine Nat.le_trans ?_ (Nat.le_add_right _ _) | (with_reducible refine bstep ?_ (by assumption))))); obtain ⟨kc2, kf2, kz2, ky2, kx2, kv2, ku2⟩ := bcell hb2; obtain ⟨jc2, jf2, jz2, jy2, jx2, jv2, ju2⟩ := bcell ha2)
  (go_wp2_with fail; refine (minus_impl _ _ _ _ ha hb _).mono ?_; rintro e w3 ⟨rfl, hb3⟩; have ha3 := bjoin ha2 hb3 (by (repeat (first | with_reducible exact Below.refl _ _ | with_reducible assumption | with_reducible refine balloc ?_ _ | with_reducible refine bdrew ?_ | with_reducible refine below_drewN ?_ _ | with_reducible refine bset ?_ ?_ _ | with_reducible exact Nat.le_refl _ | with_reducible refine bsize ?_ | (dsimp only; refine Nat.le_trans ?_ (Nat.le_add_right _ _)) | with_reducible refine Nat.le_trans ?_ (Nat.le_add_right _ _) | (with_reducible refine bstep ?_ (by assumption))))); obtain ⟨kc3, kf3, kz3, ky3, kx3, kv3, ku3⟩ := bcell hb3; obtain ⟨jc3, jf3, jz3, jy3, jx3, jv3, ju3⟩ := bcell ha3)
  go_wp2
  refine bodyPost_ret (v := .tuple #[.agg #[.int .i64 (lowN (n * q - p * d) (d * q)), .int .i64 (lowD (n * q - p * d) (d * q))], .bool (lowB (n * q - p * d) (d * q))]) (by simp only [results, Try.results69]; go_simp) rfl ⟨rfl, ?_⟩
  (repeat (first | with_reducible exact Below.refl _ _ | with_reducible assumption | with_reducible refine balloc ?_ _ | with_reducible refine bdrew ?_ | with_reducible refine below_drewN ?_ _ | with_reducible refine bset ?_ ?_ _ | with_reducible exact Nat.le_refl _ | with_reducible refine bsize ?_ | (dsimp only; refine Nat.le_trans ?_ (Nat.le_add_right _ _)) | with_reducible refine Nat.le_trans ?_ (Nat.le_add_right _ _) | (with_reducible refine bstep ?_ (by assumption))))

set_option maxHeartbeats 400000 in
theorem minus_pub_impl (n d p q : Int) (bn : -9223372036854775808 ≤ n ∧ n ≤ 9223372036854775807) (bd : -9223372036854775808 ≤ d ∧ d ≤ 9223372036854775807) (bp : -9223372036854775808 ≤ p ∧ p ≤ 9223372036854775807) (bq : -9223372036854775808 ≤ q ∧ q ≤ 9223372036854775807) (w : World) :
    Calls Try.prog 28 #[.agg #[.int .i64 n, .int .i64 d], .agg #[.int .i64 p, .int .i64 q]] w fun e w' => e = .returned (.tuple #[.agg #[.int .i64 (twoN (okk n d p q) (n * q - p * d) (d * q)), .int .i64 (twoD (okk n d p q) (n * q - p * d) (d * q))], .bool (twoB (okk n d p q) (n * q - p * d) (d * q))]) ∧ Below w.heap.size w w' := by
  cases hk : okk n d p q
  · obtain ⟨e1, e2, e3⟩ := two_no (n * q - p * d) (d * q)
    rw [e1, e2, e3]; clear e1 e2 e3
    go_enter Try.func28, Try.ntmps28
    (go_wp2_with fail; refine (reckon_no _ _ _ _ _ bn.2 bd.2 bp.2 bq.2 hk _).mono ?_; rintro e w1 ⟨rfl, hb1⟩; have ha1 := hb1; obtain ⟨kc1, kf1, kz1, ky1, kx1, kv1, ku1⟩ := bcell hb1)
    go_wp2
    refine bodyPost_ret (v := .tuple #[.agg #[.int .i64 0, .int .i64 0], .bool false]) (by simp only [results, Try.results28]; go_simp) rfl ⟨rfl, ?_⟩
    (repeat (first | with_reducible exact Below.refl _ _ | with_reducible assumption | with_reducible refine balloc ?_ _ | with_reducible refine bdrew ?_ | with_reducible refine below_drewN ?_ _ | with_reducible refine bset ?_ ?_ _ | with_reducible exact Nat.le_refl _ | with_reducible refine bsize ?_ | (dsimp only; refine Nat.le_trans ?_ (Nat.le_add_right _ _)) | with_reducible refine Nat.le_trans ?_ (Nat.le_add_right _ _) | (with_reducible refine bstep ?_ (by assumption))))
  · obtain ⟨e1, e2, e3⟩ := two_yes (n * q - p * d) (d * q)
    rw [e1, e2, e3]; clear e1 e2 e3
    have hk' := hk
    unfold okk at hk'
    rw [Bool.and_eq_true] at hk'
    go_enter Try.func28, Try.ntmps28
    (go_wp2_with fail; refine (reckon_minus _ _ _ _ hk'.1 hk'.2 _).mono ?_; rintro e w1 ⟨rfl, hb1⟩; have ha1 := hb1; obtain ⟨kc1, kf1, kz1, ky1, kx1, kv1, ku1⟩ := bcell hb1)
    go_wp2
    refine bodyPost_ret (v := .tuple #[.agg #[.int .i64 (lowN (n * q - p * d) (d * q)), .int .i64 (lowD (n * q - p * d) (d * q))], .bool (lowB (n * q - p * d) (d * q))]) (by simp only [results, Try.results28]; go_simp) rfl ⟨rfl, ?_⟩
    (repeat (first | with_reducible exact Below.refl _ _ | with_reducible assumption | with_reducible refine balloc ?_ _ | with_reducible refine bdrew ?_ | with_reducible refine below_drewN ?_ _ | with_reducible refine bset ?_ ?_ _ | with_reducible exact Nat.le_refl _ | with_reducible refine bsize ?_ | (dsimp only; refine Nat.le_trans ?_ (Nat.le_add_right _ _)) | with_reducible refine Nat.le_trans ?_ (Nat.le_add_right _ _) | (with_reducible refine bstep ?_ (by assumption))))
end Go.Proofs.Ytgpbkjakmbmccaa

/- Contracts of what the program's depots are made with: together, tankLessTwice, the fuel at each. -/
namespace Go.Proofs.Ytgpbkjakmbmccaa
open Go.ChangeShapes Go.WideShapes Go.ChangeAt Go.RowKit Go.Joins
set_option maxRecDepth 100000
set_option linter.unusedVariables false
set_option linter.unusedSimpArgs false

set_option maxHeartbeats 800000 in
theorem together_impl (v : Value) (l : List (Int × Int)) (w : World) (h : RowG 2 fAmt w v l) (h50 : l.length ≤ 50) :
    Calls Try.prog 92 #[v] w fun e w' => e = .returned (.agg #[.int .i64 (oN (sumL l 0 1)), .int .i64 (oD (sumL l 0 1))]) ∧ Below w.heap.size w w' := by
  have hsh : ∃ a cap, v = .slice a l.length cap := by
    rcases h with ⟨rfl, rfl⟩ | ⟨a, cap, rfl, _⟩
    · exact ⟨none, 0, rfl⟩
    · exact ⟨_, _, rfl⟩
  obtain ⟨a, cap, rfl⟩ := hsh
  have hcon := fun (W : World) (h : RowG 2 fAmt W (.slice a l.length cap) l) => sum_row _ l W h h50
  have HC := Lib.hid hcon
  have HR := Lib.hid h
  clear hcon h
  go_enter Try.func92, Try.ntmps92
  go_wp2_with fail
  refine (HC.out _ ?_).mono ?_
  · rcases HR.out with ⟨h1, h2⟩ | ⟨a', cap', h1, h2⟩
    · exact Or.inl ⟨h1, h2⟩
    · exact Or.inr ⟨a', cap', h1, liesG_below h2 (by (repeat (first | with_reducible exact Below.refl _ _ | with_reducible assumption | with_reducible refine balloc ?_ _ | with_reducible refine bdrew ?_ | with_reducible refine below_drewN ?_ _ | with_reducible refine bset ?_ ?_ _ | with_reducible exact Nat.le_refl _ | with_reducible refine bsize ?_ | (dsimp only; refine Nat.le_trans ?_ (Nat.le_add_right _ _)) | with_reducible refine Nat.le_trans ?_ (Nat.le_add_right _ _) | (with_reducible refine bstep ?_ (by assumption)))))⟩
  rintro e w3 ⟨rfl, hb3⟩
  obtain ⟨kc3, kf3, kz3, ky3, kx3, kv3, ku3⟩ := bcell hb3
  go_wp2
  refine bodyPost_ret (v := .agg #[.int .i64 (oN (sumL l 0 1)), .int .i64 (oD (sumL l 0 1))]) (by simp only [results, Try.results92]; go_simp) rfl ⟨rfl, ?_⟩
  (repeat (first | with_reducible exact Below.refl _ _ | with_reducible assumption | with_reducible refine balloc ?_ _ | with_reducible refine bdrew ?_ | with_reducible refine below_drewN ?_ _ | with_reducible refine bset ?_ ?_ _ | with_reducible exact Nat.le_refl _ | with_reducible refine bsize ?_ | (dsimp only; refine Nat.le_trans ?_ (Nat.le_add_right _ _)) | with_reducible refine Nat.le_trans ?_ (Nat.le_add_right _ _) | (with_reducible refine bstep ?_ (by assumption))))
theorem fuelOut_impl (k : Nat) (p q : Int) (w : World) :
    Calls Try.prog 56 #[.int .i64 k, .agg #[.int .i64 p, .int .i64 q]] w fun e w' => e = .returned (.agg #[.int .i64 k, .int .i64 1]) ∧ Below w.heap.size w w' := by
  go_enter Try.func56, Try.ntmps56
  go_wp2_with (go_at_call 52; refine (whole_is_impl _ _).mono ?_; rintro e w1 ⟨rfl, rfl⟩)
  refine bodyPost_ret (v := .agg #[.int .i64 k, .int .i64 1]) (by simp only [results, Try.results56]; go_simp) rfl ⟨rfl, ?_⟩
  (repeat (first | with_reducible exact Below.refl _ _ | with_reducible assumption | with_reducible refine balloc ?_ _ | with_reducible refine bdrew ?_ | with_reducible refine below_drewN ?_ _ | with_reducible refine bset ?_ ?_ _ | with_reducible exact Nat.le_refl _ | with_reducible refine bsize ?_ | (dsimp only; refine Nat.le_trans ?_ (Nat.le_add_right _ _)) | with_reducible refine Nat.le_trans ?_ (Nat.le_add_right _ _) | (with_reducible refine bstep ?_ (by assumption))))

/-- A tank less twice 1 / q. -/
def tlOk (q : Int) : Bool := okk 1 1 1 q && twoB (okk 1 1 1 q) (1 * q - 1 * 1) (1 * q) && twoN (okk 1 1 1 q) (1 * q - 1 * 1) (1 * q) == q - 1 && twoD (okk 1 1 1 q) (1 * q - 1 * 1) (1 * q) == q &&
  twoB (okk (q - 1) q 1 q) ((q - 1) * q - 1 * q) (q * q) && twoN (okk (q - 1) q 1 q) ((q - 1) * q - 1 * q) (q * q) == lowN (q - 2) q && twoD (okk (q - 1) q 1 q) ((q - 1) * q - 1 * q) (q * q) == lowD (q - 2) q
theorem tl_all : ∀ k : Nat, k < 25 → 2 ≤ k → tlOk k = true := by decide +kernel
structure TlSt (q : Int) : Prop where
  b1 : twoB (okk 1 1 1 q) (1 * q - 1 * 1) (1 * q) = true
  n1 : twoN (okk 1 1 1 q) (1 * q - 1 * 1) (1 * q) = q - 1
  d1 : twoD (okk 1 1 1 q) (1 * q - 1 * 1) (1 * q) = q
  b2 : twoB (okk (q - 1) q 1 q) ((q - 1) * q - 1 * q) (q * q) = true
  n2 : twoN (okk (q - 1) q 1 q) ((q - 1) * q - 1 * q) (q * q) = lowN (q - 2) q
  d2 : twoD (okk (q - 1) q 1 q) ((q - 1) * q - 1 * q) (q * q) = lowD (q - 2) q
theorem tl_of (q : Int) (h2 : 2 ≤ q) (h24 : q ≤ 24) : TlSt q := by
  have hs := tl_all q.toNat (by omega) (by omega)
  rw [Int.toNat_of_nonneg (by omega)] at hs
  simp only [tlOk, Bool.and_eq_true, beq_iff_eq] at hs
  exact ⟨hs.1.1.1.1.1.2, hs.1.1.1.1.2, hs.1.1.1.2, hs.1.1.2, hs.1.2, hs.2⟩
def tltV (w : World) (q : Int) : World := (w.alloc (.cells #[.int .i64 1, .int .i64 q] 26)).alloc (.cells #[.int .i64 0, .int .i64 0] 26)
structure TltV (w V : World) (q : Int) : Prop where
  c1 : V.cell? ⟨w.heap.size, 0, none⟩ = some (.int .i64 1)
  c2 : V.cell? ⟨w.heap.size, 1, none⟩ = some (.int .i64 q)
  r1 : V.cell? ⟨w.heap.size + 1, 0, none⟩ = some (.int .i64 0)
  r2 : V.cell? ⟨w.heap.size + 1, 1, none⟩ = some (.int .i64 0)
  r3 : V.frozen? ⟨w.heap.size + 1, 0, none⟩ = false
  r4 : V.frozen? ⟨w.heap.size + 1, 1, none⟩ = false
  hs : w.heap.size + 1 < V.heap.size
  below : Below w.heap.size w V
theorem tltV_is (w : World) (q : Int) : TltV w (tltV w q) q := by
  unfold tltV
  refine ⟨by simp, by simp, by simp, by simp, by simp, by simp, by simp, ?_⟩
  (repeat (first | with_reducible exact Below.refl _ _ | with_reducible assumption | with_reducible refine balloc ?_ _ | with_reducible refine bdrew ?_ | with_reducible refine below_drewN ?_ _ | with_reducible refine bset ?_ ?_ _ | with_reducible exact Nat.le_refl _ | with_reducible refine bsize ?_ | (dsimp only; refine Nat.le_trans ?_ (Nat.le_add_right _ _)) | with_reducible refine Nat.le_trans ?_ (Nat.le_add_right _ _) | (with_reducible refine bstep ?_ (by assumption))))
/-- What a region leaves in a variable of its own, and a bool. -/
def LeftAt (N D : Int) (V : World) (s3 s4 : Value) (wx : World) : Prop :=
  ∃ g : Nat, s3 = .pointer (some ⟨g, 0, none⟩) ∧ s4 = .bool true ∧ wx.cell? ⟨g, 0, none⟩ = some (.int .i64 N) ∧ wx.cell? ⟨g, 1, none⟩ = some (.int .i64 D) ∧ wx.frozen? ⟨g, 0, none⟩ = false ∧ wx.frozen? ⟨g, 1, none⟩ = false ∧
    V.heap.size ≤ g ∧ g < wx.heap.size ∧ Below V.heap.size V wx
set_option maxHeartbeats 1600000 in
theorem tlt_impl (q : Int) (h2 : 2 ≤ q) (h24 : q ≤ 24) (w : World) :
    Calls Try.prog 63 #[.agg #[.int .i64 1, .int .i64 q]] w fun e w' => e = .returned (.agg #[.int .i64 (lowN (q - 2) q), .int .i64 (lowD (q - 2) q)]) ∧ Below w.heap.size w w' := by
  obtain ⟨b1, n1, d1, b2, n2, d2⟩ := tl_of q h2 h24
  have hc1 := fun W => minus_pub_impl 1 1 1 q (by omega) (by omega) (by omega) (by omega) W
  have hc2 := fun W => minus_pub_impl (q - 1) q 1 q (by omega) (by omega) (by omega) (by omega) W
  rw [b1, n1, d1] at hc1
  rw [b2, n2, d2] at hc2
  have H1 := Lib.hid hc1
  have H2 := Lib.hid hc2
  clear hc1 hc2 b1 n1 d1 b2 n2 d2
  generalize lowN (q - 2) q = X at *
  generalize lowD (q - 2) q = Y at *
  generalize q - 1 = q1 at *
  go_enter Try.func63, Try.ntmps63
  go_upto_region 1 with fail
  go_cut [3, 4] (LeftAt q1 q (tltV w q))
  case first =>
    have hV := tltV_is w q
    change Code.wp _ _ _ _ (tltV w q)
    generalize tltV w q = V at *
    obtain ⟨c1, c2, r1, r2, r3, r4, hs, hbw⟩ := hV
    have a0 : w.heap.size < V.heap.size := by omega
    first | (go_region_with (first | (go_at_call 52; refine (whole_is_impl _ _).mono ?_; rintro e w1 ⟨rfl, rfl⟩) | (go_at_call 28; refine (H1.out _).mono ?_; rintro e w2 ⟨rfl, hb2⟩; obtain ⟨kc2, kf2, kz2, ky2, kx2, kv2, ku2⟩ := bcell hb2))) | fail
    all_goals (go_wp2_with fail; go_meet)
    all_goals refine ⟨_, rfl, rfl, ?_, ?_, ?_, ?_, ?_, ?_, ?_⟩
    all_goals first | ((repeat (first | with_reducible exact Below.refl _ _ | with_reducible assumption | with_reducible refine balloc ?_ _ | with_reducible refine bdrew ?_ | with_reducible refine below_drewN ?_ _ | with_reducible refine bset ?_ ?_ _ | with_reducible exact Nat.le_refl _ | with_reducible refine bsize ?_ | (dsimp only; refine Nat.le_trans ?_ (Nat.le_add_right _ _)) | with_reducible refine Nat.le_trans ?_ (Nat.le_add_right _ _) | (with_reducible refine bstep ?_ (by assumption)))); done) | (simp [go_sem, kc2, kz2, ky2, kf2]; done) | (simp; omega)
  case rest =>
    obtain ⟨g, rfl, rfl, h0, h1, f0, f1, hgV, hgs, hgb⟩ := hcut
    have hV := tltV_is w q
    generalize tltV w q = V at *
    obtain ⟨c1, c2, r1, r2, r3, r4, hs, hbw⟩ := hV
    have hwc := bstep hbw hgb
    have hwg : w.heap.size ≤ g := by omega
    have ngr : g ≠ w.heap.size + 1 := by omega
    replace c1 := keepa hgb (by omega) c1
    replace c2 := keepa hgb (by omega) c2
    replace r1 := keepa hgb hs r1
    replace r2 := keepa hgb hs r2
    replace r3 := keepf hgb hs r3
    replace r4 := keepf hgb hs r4
    have hsw : w.heap.size + 1 < wc.heap.size := by have := hgb.size; omega
    clear hgb hbw hgV hs
    go_wp2_with fail
    refine (H2.out _).mono ?_
    rintro e w3 ⟨rfl, hb3⟩
    have ha3 : Below w.heap.size w w3 := by (repeat (first | with_reducible exact Below.refl _ _ | with_reducible assumption | with_reducible refine balloc ?_ _ | with_reducible refine bdrew ?_ | with_reducible refine below_drewN ?_ _ | with_reducible refine bset ?_ ?_ _ | with_reducible exact Nat.le_refl _ | with_reducible refine bsize ?_ | (dsimp only; refine Nat.le_trans ?_ (Nat.le_add_right _ _)) | with_reducible refine Nat.le_trans ?_ (Nat.le_add_right _ _) | (with_reducible refine bstep ?_ (by assumption))))
    have hz3 := hb3.size
    have sg3 : g < w3.heap.size := by omega
    have sr3 : w.heap.size + 1 < w3.heap.size := by omega
    replace h0 := keepa hb3 hgs h0
    replace h1 := keepa hb3 hgs h1
    replace f0 := keepf hb3 hgs f0
    replace f1 := keepf hb3 hgs f1
    replace r1 := keepa hb3 hsw r1
    replace r2 := keepa hb3 hsw r2
    replace r3 := keepf hb3 hsw r3
    replace r4 := keepf hb3 hsw r4
    clear hb3 hz3 hgs hsw hwc c1 c2
    go_wp2
    refine bodyPost_ret (v := .agg #[.int .i64 X, .int .i64 Y]) (by simp only [results, Try.results63]; go_simp) rfl ⟨rfl, ?_⟩
    (repeat (first | with_reducible exact Below.refl _ _ | with_reducible assumption | with_reducible refine balloc ?_ _ | with_reducible refine bdrew ?_ | with_reducible refine below_drewN ?_ _ | with_reducible refine bset ?_ ?_ _ | with_reducible exact Nat.le_refl _ | with_reducible refine bsize ?_ | (dsimp only; refine Nat.le_trans ?_ (Nat.le_add_right _ _)) | with_reducible refine Nat.le_trans ?_ (Nat.le_add_right _ _) | (with_reducible refine bstep ?_ (by assumption))))
    all_goals (first | exact hwg | (simp; done) | (simp; omega))

def fbOk (k : Int) : Bool := twoB (okk k 1 (lowN (2 * k + 2 - 2) (2 * k + 2)) (lowD (2 * k + 2 - 2) (2 * k + 2))) (k * lowN (2 * k + 2 - 2) (2 * k + 2)) (1 * lowD (2 * k + 2 - 2) (2 * k + 2)) &&
  twoN (okk k 1 (lowN (2 * k + 2 - 2) (2 * k + 2)) (lowD (2 * k + 2 - 2) (2 * k + 2))) (k * lowN (2 * k + 2 - 2) (2 * k + 2)) (1 * lowD (2 * k + 2 - 2) (2 * k + 2)) == k * k &&
  twoD (okk k 1 (lowN (2 * k + 2 - 2) (2 * k + 2)) (lowD (2 * k + 2 - 2) (2 * k + 2))) (k * lowN (2 * k + 2 - 2) (2 * k + 2)) (1 * lowD (2 * k + 2 - 2) (2 * k + 2)) == k + 1 &&
  decide (0 ≤ lowN (2 * k + 2 - 2) (2 * k + 2) ∧ lowN (2 * k + 2 - 2) (2 * k + 2) ≤ 100) && decide (0 ≤ lowD (2 * k + 2 - 2) (2 * k + 2) ∧ lowD (2 * k + 2 - 2) (2 * k + 2) ≤ 100)
theorem fb_all : ∀ k : Nat, k < 10 → 1 ≤ k → fbOk k = true := by decide +kernel
set_option maxHeartbeats 1600000 in
theorem fuelBack_impl (k : Nat) (q : Int) (hk1 : 1 ≤ k) (hk2 : k ≤ 9) (hq : q = 2 * (k : Int) + 2) (w : World) :
    Calls Try.prog 62 #[.int .i64 k, .agg #[.int .i64 1, .int .i64 q]] w fun e w' => e = .returned (.agg #[.int .i64 ((k : Int) * k), .int .i64 ((k : Int) + 1)]) ∧ Below w.heap.size w w' := by
  have hs := fb_all k (by omega) hk1
  simp only [fbOk, Bool.and_eq_true, beq_iff_eq, decide_eq_true_eq] at hs
  obtain ⟨⟨⟨⟨s1, s2⟩, s3⟩, s4, s5⟩, s6, s7⟩ := hs
  have ht := fun W => tlt_impl q (by omega) (by omega) W
  rw [← hq] at s1 s2 s3 s4 s5 s6 s7
  have hm := fun W => times_pub_impl k 1 (lowN (q - 2) q) (lowD (q - 2) q) (by omega) (by omega) (by omega) (by omega) W
  rw [s1, s2, s3] at hm
  have HT := Lib.hid ht
  have HM := Lib.hid hm
  clear ht hm s1 s2 s3 s4 s5 s6 s7
  generalize lowN (q - 2) q = X at *
  generalize lowD (q - 2) q = Y at *
  clear hq
  go_enter Try.func62, Try.ntmps62
  go_upto_region 1 with fail
  go_cut [5, 6] (LeftAt ((k : Int) * k) ((k : Int) + 1) (tltV w q))
  case first =>
    have hV := tltV_is w q
    change Code.wp _ _ _ _ (tltV w q)
    generalize tltV w q = V at *
    obtain ⟨c1, c2, r1, r2, r3, r4, hs, hbw⟩ := hV
    have a0 : w.heap.size < V.heap.size := by omega
    first | (go_region_with (first | (go_at_call 52; refine (whole_is_impl _ _).mono ?_; rintro e w1 ⟨rfl, rfl⟩) | (go_at_call 63; refine (HT.out _).mono ?_; rintro e w2 ⟨rfl, hb2⟩; obtain ⟨kc2, kf2, kz2, ky2, kx2, kv2, ku2⟩ := bcell hb2) | (go_at_call 29; refine (HM.out _).mono ?_; rintro e w3 ⟨rfl, hb3⟩; obtain ⟨kc3, kf3, kz3, ky3, kx3, kv3, ku3⟩ := bcell hb3))) | fail
    all_goals (go_wp2_with fail; go_meet)
    all_goals refine ⟨_, rfl, rfl, ?_, ?_, ?_, ?_, ?_, ?_, ?_⟩
    all_goals first | ((repeat (first | with_reducible exact Below.refl _ _ | with_reducible assumption | with_reducible refine balloc ?_ _ | with_reducible refine bdrew ?_ | with_reducible refine below_drewN ?_ _ | with_reducible refine bset ?_ ?_ _ | with_reducible exact Nat.le_refl _ | with_reducible refine bsize ?_ | (dsimp only; refine Nat.le_trans ?_ (Nat.le_add_right _ _)) | with_reducible refine Nat.le_trans ?_ (Nat.le_add_right _ _) | (with_reducible refine bstep ?_ (by assumption)))); done) | (simp [go_sem, kc3, kz3, ky3, kf3]; done) | (simp [go_sem, kc2, kz2, kc3, kz3, ky3, kf3]; done) | (simp; omega) | ((have z2 := kz2 (V.heap.size + 1) (by simp)); (have z3 := kz3 _ z2); (have e0 := (kc3 (V.heap.size + 1) 0 z2).trans (kc2 (V.heap.size + 1) 0 (by simp))); (have e1 := (kc3 (V.heap.size + 1) 1 z2).trans (kc2 (V.heap.size + 1) 1 (by simp))); (have g0 := (kf3 (V.heap.size + 1) 0 z2).trans (kf2 (V.heap.size + 1) 0 (by simp))); (have g1 := (kf3 (V.heap.size + 1) 1 z2).trans (kf2 (V.heap.size + 1) 1 (by simp))); simp [go_sem, e0, e1, g0, g1, z3]; done) | ((have z2 := kz2 V.heap.size (by simp)); (have z3 := kz3 _ z2); (have e0 := (kc3 V.heap.size 0 z2).trans (kc2 V.heap.size 0 (by simp))); (have e1 := (kc3 V.heap.size 1 z2).trans (kc2 V.heap.size 1 (by simp))); (have g0 := (kf3 V.heap.size 0 z2).trans (kf2 V.heap.size 0 (by simp))); (have g1 := (kf3 V.heap.size 1 z2).trans (kf2 V.heap.size 1 (by simp))); simp [go_sem, e0, e1, g0, g1, z3]; done)
  case rest =>
    obtain ⟨g, rfl, rfl, h0, h1, f0, f1, hgV, hgs, hgb⟩ := hcut
    have hV := tltV_is w q
    generalize tltV w q = V at *
    obtain ⟨c1, c2, r1, r2, r3, r4, hs, hbw⟩ := hV
    have hwc := bstep hbw hgb
    have hwg : w.heap.size ≤ g := by omega
    replace r1 := keepa hgb hs r1
    replace r2 := keepa hgb hs r2
    replace r3 := keepf hgb hs r3
    replace r4 := keepf hgb hs r4
    have hsw : w.heap.size + 1 < wc.heap.size := by have := hgb.size; omega
    have ngr : g ≠ w.heap.size + 1 := by omega
    clear hgb hbw hgV hs c1 c2
    go_wp2
    refine bodyPost_ret (v := .agg #[.int .i64 ((k : Int) * k), .int .i64 ((k : Int) + 1)]) (by simp only [results, Try.results62]; go_simp) rfl ⟨rfl, ?_⟩
    (repeat (first | with_reducible exact Below.refl _ _ | with_reducible assumption | with_reducible refine balloc ?_ _ | with_reducible refine bdrew ?_ | with_reducible refine below_drewN ?_ _ | with_reducible refine bset ?_ ?_ _ | with_reducible exact Nat.le_refl _ | with_reducible refine bsize ?_ | (dsimp only; refine Nat.le_trans ?_ (Nat.le_add_right _ _)) | with_reducible refine Nat.le_trans ?_ (Nat.le_add_right _ _) | (with_reducible refine bstep ?_ (by assumption))))
    all_goals (first | exact hwg | (simp; done) | (simp; omega))
end Go.Proofs.Ytgpbkjakmbmccaa

/- Contracts of DepotsOut and DepotsBack, on both sides. -/
namespace Go.Proofs.Ytgpbkjakmbmccaa
open Go.ChangeShapes Go.WideShapes Go.ChangeAt Go.RowKit Go.Joins
set_option maxRecDepth 100000
set_option linter.unusedVariables false
set_option linter.unusedSimpArgs false

theorem rowG_below {α : Type} {m : Nat} {f : α → List Int} {w w' : World} {v : Value} {l : List α} (h : RowG m f w v l) (hb : Below w.heap.size w w') : RowG m f w' v l := by
  rcases h with h | ⟨a, cap, h, hL⟩
  · exact Or.inl h
  · exact Or.inr ⟨a, cap, h, liesG_below hL hb⟩
theorem pL_get (j : Int) (t i m : Nat) (h : m < i) (ht : i ≤ t) : (pL j t i)[m]? = (pL j t t)[m]? := by
  simp [pL, List.getElem?_map, List.getElem?_range, h, show m < t by omega]
theorem pL_at (j : Int) (t i : Nat) (h : i < t) : (pL j t t)[i]? = some (1, drv j (t - 1 - i)) := by
  simp [pL, List.getElem?_map, h]
/-- The first i parts, as a slice of their own. -/
theorem first_row {j : Int} {t i g cap : Nat} {w : World} (hL : LiesG 2 fAmt w ⟨g, 0, none⟩ cap (pL j t t)) (hi : i ≤ t) : RowG 2 fAmt w (.slice (some ⟨g, 0, none⟩) i i) (pL j t i) := by
  refine Or.inr ⟨⟨g, 0, none⟩, i, by rw [pL_len], ?_⟩
  have hlc := hL.hlc
  rw [pL_len] at hlc
  refine ⟨by rw [pL_len]; exact Nat.le_refl _, by have := hL.hcap; omega, fun m p hp k y hy => ?_, fun p hp => ?_⟩
  · have hm : m < i := by have := (List.getElem?_eq_some_iff.1 hp).1; rwa [pL_len] at this
    rw [pL_get j t i m hm hi] at hp
    exact hL.hcell m p hp k y hy
  · obtain ⟨m, hm, hp'⟩ := List.getElem_of_mem hp
    have hm' : m < i := by rwa [pL_len] at hm
    have e : (pL j t i)[m]? = some p := by rw [List.getElem?_eq_getElem hm, hp']
    rw [pL_get j t i m hm' hi] at e
    exact hL.hbd p (List.mem_of_getElem? e)

set_option maxHeartbeats 800000 in
theorem depI_1_no (t : Int) (h : tkOk t = false) (w : World) :
    Calls Try.prog 55 #[.int .i64 1, .int .i64 t, .func (.func 56) #[] #[]] w (AnsG 41 4 fDepot [] false w) := by
  go_enter Try.func55, Try.ntmps55
  go_wp2_with (go_at_call 49; refine (in_impl _ _ _ _).mono ?_; rintro e w1 ⟨rfl, rfl⟩; rw [show inB t 0 10 = false from h])
  go_ret2
  exact ⟨_, rfl, ⟨rfl, Or.inl ⟨rfl, rfl⟩⟩, Below.refl _ _⟩
set_option maxHeartbeats 3200000 in
theorem depI_1_yes (t : Nat) (ht : t ≤ 10) (w : World) :
    Calls Try.prog 55 #[.int .i64 1, .int .i64 t, .func (.func 56) #[] #[]] w (AnsG 41 4 fDepot (dpP 1 t (t - 1)) true w) := by
  obtain ⟨i0, hi, hz0, hz1, hz2⟩ := info_parts infoDep
  have h : inB (t : Int) 0 10 = true := by unfold inB; simp; omega
  go_enter Try.func55, Try.ntmps55
  go_wp2_with (first | (go_at_call 49; refine (in_impl _ _ _ _).mono ?_; rintro e w1 ⟨rfl, rfl⟩; rw [h]) | (go_at_call 94; refine (parts_impl 1 t (Or.inl rfl) (by omega) _).mono ?_; rintro e w2 ⟨pv, rfl, hpo, hbp⟩))
  go_loopw [10, 11] (fun u c wr => ∃ (i : Nat) (v : Value), v = u ∧ i ≤ t - 1 ∧ c = .int .i64 ((t : Int) - 1 - i) ∧ wr.ownsRow w2.heap.size 41 4 v i (cellsG fDepot (dpP 1 t i)) ∧ Below w2.heap.size w2 wr) (fun _ c _ => (intOf c + 1).toNat)
  case atStart => exact ⟨0, _, rfl, Nat.zero_le _, by simp, ⟨rfl, Or.inl ⟨rfl, rfl⟩⟩, Below.refl _ _⟩
  case round =>
    obtain ⟨i, v, rfl, hit, rfl, hown, hbel⟩ := hrel
    by_cases hlt : i < t - 1
    · obtain ⟨k, hk⟩ : ∃ k : Nat, k + i + 1 = t := ⟨t - 1 - i, by omega⟩
      have hc : (t : Int) - 1 - i = (k : Int) := by omega
      rw [hc]
      have hk1 : 1 ≤ k := by omega
      have hk2 : k ≤ 9 := by omega
      obtain ⟨g, cap, rfl⟩ : ∃ g cap, pv = .slice (some ⟨g, 0, none⟩) t cap := by
        have h2 := hpo.2
        rcases h2 with ⟨_, h0⟩ | ⟨g, cap, cur, hv, _⟩
        · omega
        · exact ⟨g, cap, hv⟩
      have hpo' := hpo
      rw [← pL_len 1 t t] at hpo'
      have hL := liesG_own fAmt_len (by simpa [pL_len] using hpo') (pL_bd 1 t t (Or.inl rfl) (by omega))
      have hLr := liesG_below hL hbel
      have tc : t ≤ cap := by have := hL.hlc; rwa [pL_len] at this
      have hcm := hL.hcap
      have hrow : RowG 2 fAmt wr (.slice (some ⟨g, 0, none⟩) (i + 1) (i + 1)) (pL 1 t (i + 1)) := first_row hLr (by omega)
      have ek : t - 1 - i = k := by omega
      have hpa := pL_at 1 t i (by omega)
      have c0 := hLr.hcell i _ hpa 0 1 rfl
      have c1 := hLr.hcell i _ hpa 1 _ rfl
      rw [Addr.add_lit, Nat.zero_add] at c0 c1
      rw [Nat.add_zero] at c0
      rw [ek, show drv 1 k = 2 * (k : Int) + 1 from rfl] at c1
      have hdn := dpP_succ 1 t i
      rw [ek] at hdn
      unfold atP at hdn
      dsimp only at hdn
      have hcon := fun (W : World) (hr : RowG 2 fAmt W (.slice (some ⟨g, 0, none⟩) (i + 1) (i + 1)) (pL 1 t (i + 1))) => together_impl _ _ W hr (by rw [pL_len]; omega)
      generalize oN (sumL (pL 1 t (i + 1)) 0 1) = X at *
      generalize oD (sumL (pL 1 t (i + 1)) 0 1) = Y at *
      have hgs : g < wr.heap.size := cell_lt c0
      have hgl : g < w2.heap.size := own_lt hpo rfl
      have E : (t : Int) - (k : Int) = (i : Int) + 1 := by omega
      have HC := Lib.hid hcon
      have HR := Lib.hid hrow
      have HK := Lib.hid hk
      have HD := Lib.hid hdn
      have hi20 : i ≤ 20 := by omega
      have ti : i + 1 ≤ cap := by omega
      have ti2 : (i : Int) + 1 ≤ (cap : Int) := by omega
      have tn : ((i : Int) + 1).toNat = i + 1 := by omega
      clear hcon hrow hk hdn hc ek hpa hLr hL hpo hpo' h
      go_upto_region 10 with fail
      have wqa : IntKind.i64.wrap ((t : Int) - (k : Int)) = (i : Int) + 1 := by rw [E]; exact IntWalk.i64_in _ (by omega)
      have wqb : IntKind.i64.wrap ((i : Int) + 1 - 1) = (i : Int) := by rw [show (i : Int) + 1 - 1 = (i : Int) by omega]; exact IntWalk.i64_in _ (by omega)
      have wqc : IntKind.i64.wrap (i : Int) = (i : Int) := IntWalk.i64_in _ (by omega)
      have wqd : IntKind.i64.wrap ((i : Int) + 1) = (i : Int) + 1 := IntWalk.i64_in _ (by omega)
      have it : i < t := by omega
      have ne3 : v.ownBlock ≠ some g := own_ne hown hgl
      go_region_held_law (fun w' => w'.cell? ⟨g, i * 2, none⟩ = some (.int .i64 1) ∧ w'.cell? ⟨g, i * 2 + 1, none⟩ = some (.int .i64 (2 * (k : Int) + 1))) (first | exact ⟨by assumption, by assumption⟩ | exact ⟨keepa (W0 := wr) (by (repeat (first | with_reducible exact Below.refl _ _ | with_reducible assumption | with_reducible refine balloc ?_ _ | with_reducible refine bdrew ?_ | with_reducible refine below_drewN ?_ _ | with_reducible refine bset ?_ ?_ _ | with_reducible exact Nat.le_refl _ | with_reducible refine bsize ?_ | (dsimp only; refine Nat.le_trans ?_ (Nat.le_add_right _ _)) | with_reducible refine Nat.le_trans ?_ (Nat.le_add_right _ _) | (with_reducible refine bstep ?_ (by assumption))))) hgs c0, keepa (W0 := wr) (by (repeat (first | with_reducible exact Below.refl _ _ | with_reducible assumption | with_reducible refine balloc ?_ _ | with_reducible refine bdrew ?_ | with_reducible refine below_drewN ?_ _ | with_reducible refine bset ?_ ?_ _ | with_reducible exact Nat.le_refl _ | with_reducible refine bsize ?_ | (dsimp only; refine Nat.le_trans ?_ (Nat.le_add_right _ _)) | with_reducible refine Nat.le_trans ?_ (Nat.le_add_right _ _) | (with_reducible refine bstep ?_ (by assumption))))) hgs c1⟩ | exact ⟨trivial, trivial⟩) (first | (go_at_call 92; refine (HC.out _ ?hr).mono ?_; (case hr => refine rowG_below HR.out ?_; (repeat (first | with_reducible exact Below.refl _ _ | with_reducible assumption | with_reducible refine balloc ?_ _ | with_reducible refine bdrew ?_ | with_reducible refine below_drewN ?_ _ | with_reducible refine bset ?_ ?_ _ | with_reducible exact Nat.le_refl _ | with_reducible refine bsize ?_ | (dsimp only; refine Nat.le_trans ?_ (Nat.le_add_right _ _)) | with_reducible refine Nat.le_trans ?_ (Nat.le_add_right _ _) | (with_reducible refine bstep ?_ (by assumption))))); rintro e w3 ⟨rfl, hb3⟩) | (go_at_call 56; refine (fuelOut_impl k _ _ _).mono ?_; rintro e w4 ⟨rfl, hb4⟩) | (refine step_append_own rfl (.tmp 33) (.tmp 48) 36 rfl w2.heap.size 41 i0 (.agg #[.int .i64 0, .int .i64 0, .int .i64 0, .int .i64 0]) 4 32 Try.underlying36 hi hz0 hz1 hz2 rfl (by decide) v i (cellsG fDepot (dpP 1 t i)) ?c6 ?own ⟨w4.heap.size, 0, none⟩ 1 1 [.int .i64 X, .int .i64 Y, .int .i64 k, .int .i64 1] ?c7 rfl ?c1 ?c2 ?c3 ?c4 ?c5 ?_; (case own => (repeat (first | with_reducible assumption | with_reducible refine own_alloc ?_ _ | with_reducible refine own_drew ?_ | with_reducible refine own_set ?_ ?_ _ | with_reducible refine ownsRow_below ?_ (by assumption)))); (case c1 => simp [go_sem]); (case c2 => simp [Value.oneCell']); (case c3 => unfold maxLen; omega); (case c4 => omega); (case c5 => (repeat (first | with_reducible exact Below.refl _ _ | with_reducible assumption | with_reducible refine balloc ?_ _ | with_reducible refine bdrew ?_ | with_reducible refine below_drewN ?_ _ | with_reducible refine bset ?_ ?_ _ | with_reducible exact Nat.le_refl _ | with_reducible refine bsize ?_ | (dsimp only; refine Nat.le_trans ?_ (Nat.le_add_right _ _)) | with_reducible refine Nat.le_trans ?_ (Nat.le_add_right _ _) | (with_reducible refine bstep ?_ (by assumption))))); (case c6 => simp [Act.eval, Act.put]); (case c7 => simp [Act.eval, Act.put]); intro v' w5 hown' hgrow; (have e0 : w5.cell? ⟨g, i * 2, none⟩ = some (.int .i64 1) := hgrow.cell (keepa (W0 := wr) (by (repeat (first | with_reducible exact Below.refl _ _ | with_reducible assumption | with_reducible refine balloc ?_ _ | with_reducible refine bdrew ?_ | with_reducible refine below_drewN ?_ _ | with_reducible refine bset ?_ ?_ _ | with_reducible exact Nat.le_refl _ | with_reducible refine bsize ?_ | (dsimp only; refine Nat.le_trans ?_ (Nat.le_add_right _ _)) | with_reducible refine Nat.le_trans ?_ (Nat.le_add_right _ _) | (with_reducible refine bstep ?_ (by assumption))))) hgs c0) (fun e => ne3 e.symm)); (have e1 : w5.cell? ⟨g, i * 2 + 1, none⟩ = some (.int .i64 (2 * (k : Int) + 1)) := hgrow.cell (keepa (W0 := wr) (by (repeat (first | with_reducible exact Below.refl _ _ | with_reducible assumption | with_reducible refine balloc ?_ _ | with_reducible refine bdrew ?_ | with_reducible refine below_drewN ?_ _ | with_reducible refine bset ?_ ?_ _ | with_reducible exact Nat.le_refl _ | with_reducible refine bsize ?_ | (dsimp only; refine Nat.le_trans ?_ (Nat.le_add_right _ _)) | with_reducible refine Nat.le_trans ?_ (Nat.le_add_right _ _) | (with_reducible refine bstep ?_ (by assumption))))) hgs c1) (fun e => ne3 e.symm))))
      all_goals
        clear wqa wqb wqc wqd
        have hown2 : w5.ownsRow w2.heap.size 41 4 v' (i + 1) (cellsG fDepot (dpP 1 t (i + 1))) := by
          rw [HD.out, cellsG_snoc]; simpa [fDepot, fuP] using hown'
        have bel5 : Below w2.heap.size w2 w5 := by
          refine grown_bel (base := w2.heap.size) (e := 41) (size := 4) (n := i) (xs := cellsG fDepot (dpP 1 t i)) ?_ hgrow (by (repeat (first | with_reducible assumption | with_reducible refine own_alloc ?_ _ | with_reducible refine own_drew ?_ | with_reducible refine own_set ?_ ?_ _ | with_reducible refine ownsRow_below ?_ (by assumption)))) (Nat.le_refl _)
          (repeat (first | with_reducible exact Below.refl _ _ | with_reducible assumption | with_reducible refine balloc ?_ _ | with_reducible refine bdrew ?_ | with_reducible refine below_drewN ?_ _ | with_reducible refine bset ?_ ?_ _ | with_reducible exact Nat.le_refl _ | with_reducible refine bsize ?_ | (dsimp only; refine Nat.le_trans ?_ (Nat.le_add_right _ _)) | with_reducible refine Nat.le_trans ?_ (Nat.le_add_right _ _) | (with_reducible refine bstep ?_ (by assumption))))
        have HK2 := HK.out
        clear hown' hgrow hown hbel hb3 hb4 e0 e1 HC HR E ne3 c0 c1
        have HK := Lib.hid HK2
        clear HK2
        go_wp2
        go_roundw
        case rel => exact ⟨i + 1, _, rfl, by omega, by have := HK.out; congr 1; omega, hown2, bel5⟩
        case measure => first | (simp [intOf]; done) | (simp [intOf]; omega)
    · have hit' : i = t - 1 := by omega
      subst hit'
      have hc : ∃ y : Int, (t : Int) - 1 - ((t - 1 : Nat) : Int) = y ∧ y ≤ 0 ∧ -1 ≤ y := ⟨_, rfl, by omega, by omega⟩
      obtain ⟨y, hy, y0, y1⟩ := hc
      rw [hy]
      have hb2 := hbp.size
      clear hy h
      go_wp2
      go_ret2
      exact ⟨_, rfl, by rw [dpP_len]; exact own_mono hown hb2, bstep hbp hbel⟩

set_option maxHeartbeats 800000 in
theorem depI_2_no (t : Int) (h : tkOk t = false) (w : World) :
    Calls Try.prog 55 #[.int .i64 2, .int .i64 t, .func (.func 62) #[] #[]] w (AnsG 41 4 fDepot [] false w) := by
  go_enter Try.func55, Try.ntmps55
  go_wp2_with (go_at_call 49; refine (in_impl _ _ _ _).mono ?_; rintro e w1 ⟨rfl, rfl⟩; rw [show inB t 0 10 = false from h])
  go_ret2
  exact ⟨_, rfl, ⟨rfl, Or.inl ⟨rfl, rfl⟩⟩, Below.refl _ _⟩
set_option maxHeartbeats 3200000 in
theorem depI_2_yes (t : Nat) (ht : t ≤ 10) (w : World) :
    Calls Try.prog 55 #[.int .i64 2, .int .i64 t, .func (.func 62) #[] #[]] w (AnsG 41 4 fDepot (dpP 2 t (t - 1)) true w) := by
  obtain ⟨i0, hi, hz0, hz1, hz2⟩ := info_parts infoDep
  have h : inB (t : Int) 0 10 = true := by unfold inB; simp; omega
  go_enter Try.func55, Try.ntmps55
  go_wp2_with (first | (go_at_call 49; refine (in_impl _ _ _ _).mono ?_; rintro e w1 ⟨rfl, rfl⟩; rw [h]) | (go_at_call 94; refine (parts_impl 2 t (Or.inr rfl) (by omega) _).mono ?_; rintro e w2 ⟨pv, rfl, hpo, hbp⟩))
  go_loopw [10, 11] (fun u c wr => ∃ (i : Nat) (v : Value), v = u ∧ i ≤ t - 1 ∧ c = .int .i64 ((t : Int) - 1 - i) ∧ wr.ownsRow w2.heap.size 41 4 v i (cellsG fDepot (dpP 2 t i)) ∧ Below w2.heap.size w2 wr) (fun _ c _ => (intOf c + 1).toNat)
  case atStart => exact ⟨0, _, rfl, Nat.zero_le _, by simp, ⟨rfl, Or.inl ⟨rfl, rfl⟩⟩, Below.refl _ _⟩
  case round =>
    obtain ⟨i, v, rfl, hit, rfl, hown, hbel⟩ := hrel
    by_cases hlt : i < t - 1
    · obtain ⟨k, hk⟩ : ∃ k : Nat, k + i + 1 = t := ⟨t - 1 - i, by omega⟩
      have hc : (t : Int) - 1 - i = (k : Int) := by omega
      rw [hc]
      have hk1 : 1 ≤ k := by omega
      have hk2 : k ≤ 9 := by omega
      obtain ⟨g, cap, rfl⟩ : ∃ g cap, pv = .slice (some ⟨g, 0, none⟩) t cap := by
        have h2 := hpo.2
        rcases h2 with ⟨_, h0⟩ | ⟨g, cap, cur, hv, _⟩
        · omega
        · exact ⟨g, cap, hv⟩
      have hpo' := hpo
      rw [← pL_len 2 t t] at hpo'
      have hL := liesG_own fAmt_len (by simpa [pL_len] using hpo') (pL_bd 2 t t (Or.inr rfl) (by omega))
      have hLr := liesG_below hL hbel
      have tc : t ≤ cap := by have := hL.hlc; rwa [pL_len] at this
      have hcm := hL.hcap
      have hrow : RowG 2 fAmt wr (.slice (some ⟨g, 0, none⟩) (i + 1) (i + 1)) (pL 2 t (i + 1)) := first_row hLr (by omega)
      have ek : t - 1 - i = k := by omega
      have hpa := pL_at 2 t i (by omega)
      have c0 := hLr.hcell i _ hpa 0 1 rfl
      have c1 := hLr.hcell i _ hpa 1 _ rfl
      rw [Addr.add_lit, Nat.zero_add] at c0 c1
      rw [Nat.add_zero] at c0
      rw [ek, show drv 2 k = 2 * (k : Int) + 2 from rfl] at c1
      have hdn := dpP_succ 2 t i
      rw [ek] at hdn
      unfold atP at hdn
      dsimp only at hdn
      have hcon := fun (W : World) (hr : RowG 2 fAmt W (.slice (some ⟨g, 0, none⟩) (i + 1) (i + 1)) (pL 2 t (i + 1))) => together_impl _ _ W hr (by rw [pL_len]; omega)
      generalize oN (sumL (pL 2 t (i + 1)) 0 1) = X at *
      generalize oD (sumL (pL 2 t (i + 1)) 0 1) = Y at *
      have hgs : g < wr.heap.size := cell_lt c0
      have hgl : g < w2.heap.size := own_lt hpo rfl
      have E : (t : Int) - (k : Int) = (i : Int) + 1 := by omega
      have HC := Lib.hid hcon
      have HR := Lib.hid hrow
      have HK := Lib.hid hk
      have HD := Lib.hid hdn
      have hi20 : i ≤ 20 := by omega
      have ti : i + 1 ≤ cap := by omega
      have ti2 : (i : Int) + 1 ≤ (cap : Int) := by omega
      have tn : ((i : Int) + 1).toNat = i + 1 := by omega
      clear hcon hrow hk hdn hc ek hpa hLr hL hpo hpo' h
      go_upto_region 10 with fail
      have wqa : IntKind.i64.wrap ((t : Int) - (k : Int)) = (i : Int) + 1 := by rw [E]; exact IntWalk.i64_in _ (by omega)
      have wqb : IntKind.i64.wrap ((i : Int) + 1 - 1) = (i : Int) := by rw [show (i : Int) + 1 - 1 = (i : Int) by omega]; exact IntWalk.i64_in _ (by omega)
      have wqc : IntKind.i64.wrap (i : Int) = (i : Int) := IntWalk.i64_in _ (by omega)
      have wqd : IntKind.i64.wrap ((i : Int) + 1) = (i : Int) + 1 := IntWalk.i64_in _ (by omega)
      have it : i < t := by omega
      have ne3 : v.ownBlock ≠ some g := own_ne hown hgl
      go_region_held_law (fun w' => w'.cell? ⟨g, i * 2, none⟩ = some (.int .i64 1) ∧ w'.cell? ⟨g, i * 2 + 1, none⟩ = some (.int .i64 (2 * (k : Int) + 2))) (first | exact ⟨by assumption, by assumption⟩ | exact ⟨keepa (W0 := wr) (by (repeat (first | with_reducible exact Below.refl _ _ | with_reducible assumption | with_reducible refine balloc ?_ _ | with_reducible refine bdrew ?_ | with_reducible refine below_drewN ?_ _ | with_reducible refine bset ?_ ?_ _ | with_reducible exact Nat.le_refl _ | with_reducible refine bsize ?_ | (dsimp only; refine Nat.le_trans ?_ (Nat.le_add_right _ _)) | with_reducible refine Nat.le_trans ?_ (Nat.le_add_right _ _) | (with_reducible refine bstep ?_ (by assumption))))) hgs c0, keepa (W0 := wr) (by (repeat (first | with_reducible exact Below.refl _ _ | with_reducible assumption | with_reducible refine balloc ?_ _ | with_reducible refine bdrew ?_ | with_reducible refine below_drewN ?_ _ | with_reducible refine bset ?_ ?_ _ | with_reducible exact Nat.le_refl _ | with_reducible refine bsize ?_ | (dsimp only; refine Nat.le_trans ?_ (Nat.le_add_right _ _)) | with_reducible refine Nat.le_trans ?_ (Nat.le_add_right _ _) | (with_reducible refine bstep ?_ (by assumption))))) hgs c1⟩ | exact ⟨trivial, trivial⟩) (first | (go_at_call 92; refine (HC.out _ ?hr).mono ?_; (case hr => refine rowG_below HR.out ?_; (repeat (first | with_reducible exact Below.refl _ _ | with_reducible assumption | with_reducible refine balloc ?_ _ | with_reducible refine bdrew ?_ | with_reducible refine below_drewN ?_ _ | with_reducible refine bset ?_ ?_ _ | with_reducible exact Nat.le_refl _ | with_reducible refine bsize ?_ | (dsimp only; refine Nat.le_trans ?_ (Nat.le_add_right _ _)) | with_reducible refine Nat.le_trans ?_ (Nat.le_add_right _ _) | (with_reducible refine bstep ?_ (by assumption))))); rintro e w3 ⟨rfl, hb3⟩) | (go_at_call 62; refine (fuelBack_impl k _ hk1 hk2 rfl _).mono ?_; rintro e w4 ⟨rfl, hb4⟩) | (refine step_append_own rfl (.tmp 33) (.tmp 48) 36 rfl w2.heap.size 41 i0 (.agg #[.int .i64 0, .int .i64 0, .int .i64 0, .int .i64 0]) 4 32 Try.underlying36 hi hz0 hz1 hz2 rfl (by decide) v i (cellsG fDepot (dpP 2 t i)) ?c6 ?own ⟨w4.heap.size, 0, none⟩ 1 1 [.int .i64 X, .int .i64 Y, .int .i64 ((k : Int) * k), .int .i64 ((k : Int) + 1)] ?c7 rfl ?c1 ?c2 ?c3 ?c4 ?c5 ?_; (case own => (repeat (first | with_reducible assumption | with_reducible refine own_alloc ?_ _ | with_reducible refine own_drew ?_ | with_reducible refine own_set ?_ ?_ _ | with_reducible refine ownsRow_below ?_ (by assumption)))); (case c1 => simp [go_sem]); (case c2 => simp [Value.oneCell']); (case c3 => unfold maxLen; omega); (case c4 => omega); (case c5 => (repeat (first | with_reducible exact Below.refl _ _ | with_reducible assumption | with_reducible refine balloc ?_ _ | with_reducible refine bdrew ?_ | with_reducible refine below_drewN ?_ _ | with_reducible refine bset ?_ ?_ _ | with_reducible exact Nat.le_refl _ | with_reducible refine bsize ?_ | (dsimp only; refine Nat.le_trans ?_ (Nat.le_add_right _ _)) | with_reducible refine Nat.le_trans ?_ (Nat.le_add_right _ _) | (with_reducible refine bstep ?_ (by assumption))))); (case c6 => simp [Act.eval, Act.put]); (case c7 => simp [Act.eval, Act.put]); intro v' w5 hown' hgrow; (have e0 : w5.cell? ⟨g, i * 2, none⟩ = some (.int .i64 1) := hgrow.cell (keepa (W0 := wr) (by (repeat (first | with_reducible exact Below.refl _ _ | with_reducible assumption | with_reducible refine balloc ?_ _ | with_reducible refine bdrew ?_ | with_reducible refine below_drewN ?_ _ | with_reducible refine bset ?_ ?_ _ | with_reducible exact Nat.le_refl _ | with_reducible refine bsize ?_ | (dsimp only; refine Nat.le_trans ?_ (Nat.le_add_right _ _)) | with_reducible refine Nat.le_trans ?_ (Nat.le_add_right _ _) | (with_reducible refine bstep ?_ (by assumption))))) hgs c0) (fun e => ne3 e.symm)); (have e1 : w5.cell? ⟨g, i * 2 + 1, none⟩ = some (.int .i64 (2 * (k : Int) + 2)) := hgrow.cell (keepa (W0 := wr) (by (repeat (first | with_reducible exact Below.refl _ _ | with_reducible assumption | with_reducible refine balloc ?_ _ | with_reducible refine bdrew ?_ | with_reducible refine below_drewN ?_ _ | with_reducible refine bset ?_ ?_ _ | with_reducible exact Nat.le_refl _ | with_reducible refine bsize ?_ | (dsimp only; refine Nat.le_trans ?_ (Nat.le_add_right _ _)) | with_reducible refine Nat.le_trans ?_ (Nat.le_add_right _ _) | (with_reducible refine bstep ?_ (by assumption))))) hgs c1) (fun e => ne3 e.symm))))
      all_goals
        clear wqa wqb wqc wqd
        have hown2 : w5.ownsRow w2.heap.size 41 4 v' (i + 1) (cellsG fDepot (dpP 2 t (i + 1))) := by
          rw [HD.out, cellsG_snoc]; simpa [fDepot, fuP] using hown'
        have bel5 : Below w2.heap.size w2 w5 := by
          refine grown_bel (base := w2.heap.size) (e := 41) (size := 4) (n := i) (xs := cellsG fDepot (dpP 2 t i)) ?_ hgrow (by (repeat (first | with_reducible assumption | with_reducible refine own_alloc ?_ _ | with_reducible refine own_drew ?_ | with_reducible refine own_set ?_ ?_ _ | with_reducible refine ownsRow_below ?_ (by assumption)))) (Nat.le_refl _)
          (repeat (first | with_reducible exact Below.refl _ _ | with_reducible assumption | with_reducible refine balloc ?_ _ | with_reducible refine bdrew ?_ | with_reducible refine below_drewN ?_ _ | with_reducible refine bset ?_ ?_ _ | with_reducible exact Nat.le_refl _ | with_reducible refine bsize ?_ | (dsimp only; refine Nat.le_trans ?_ (Nat.le_add_right _ _)) | with_reducible refine Nat.le_trans ?_ (Nat.le_add_right _ _) | (with_reducible refine bstep ?_ (by assumption))))
        have HK2 := HK.out
        clear hown' hgrow hown hbel hb3 hb4 e0 e1 HC HR E ne3 c0 c1
        have HK := Lib.hid HK2
        clear HK2
        go_wp2
        go_roundw
        case rel => exact ⟨i + 1, _, rfl, by omega, by have := HK.out; congr 1; omega, hown2, bel5⟩
        case measure => first | (simp [intOf]; done) | (simp [intOf]; omega)
    · have hit' : i = t - 1 := by omega
      subst hit'
      have hc : ∃ y : Int, (t : Int) - 1 - ((t - 1 : Nat) : Int) = y ∧ y ≤ 0 ∧ -1 ≤ y := ⟨_, rfl, by omega, by omega⟩
      obtain ⟨y, hy, y0, y1⟩ := hc
      rw [hy]
      have hb2 := hbp.size
      clear hy h
      go_wp2
      go_ret2
      exact ⟨_, rfl, by rw [dpP_len]; exact own_mono hown hb2, bstep hbp hbel⟩

theorem depI_1 (t : Int) (w : World) :
    Calls Try.prog 55 #[.int .i64 1, .int .i64 t, .func (.func 56) #[] #[]] w (AnsG 41 4 fDepot (dpL 1 t) (tkOk t) w) := by
  unfold dpL
  cases h : tkOk t
  · rw [if_neg (by simp)]; exact depI_1_no t h w
  · rw [if_pos rfl]
    obtain ⟨k, hk, rfl⟩ := tk_nat h
    exact depI_1_yes k hk w
theorem depotsOut_impl (t : Int) (bt : -9223372036854775808 ≤ t ∧ t ≤ 9223372036854775807) (w : World) :
    Calls Try.prog 12 #[.int .i64 t] w (AnsG 41 4 fDepot (dpL 1 t) (tkOk t) w) := by
  go_enter Try.func12, Try.ntmps12
  go_wp2_with fail; refine (depI_1 t _).mono ?_; rintro e w1 ⟨v, rfl, hown, hb1⟩
  go_wp2
  go_ret2
  exact ⟨_, rfl, hown, hb1⟩
theorem depotsOut_spec (t : Int) (bt : -9223372036854775808 ≤ t ∧ t ≤ 9223372036854775807) (w : World) :
    Calls Try.prog 15 #[.int .i64 t] w (AnsG 41 4 fDepot (dpL 1 t) (tkOk t) w) := by
  unfold dpL
  cases h : tkOk t
  · rw [if_neg (by simp)]
    go_enter Try.func15, Try.ntmps15
    go_wp2_with (go_at_call 60; refine (jeTanks_spec _ _).mono ?_; rintro e w1 ⟨rfl, rfl⟩; rw [h])
    go_ret2
    exact ⟨_, rfl, ⟨rfl, Or.inl ⟨rfl, rfl⟩⟩, Below.refl _ _⟩
  · rw [if_pos rfl]
    obtain ⟨k, hk, rfl⟩ := tk_nat h
    go_enter Try.func15, Try.ntmps15
    go_wp2_with (first | (go_at_call 60; refine (jeTanks_spec _ _).mono ?_; rintro e w1 ⟨rfl, rfl⟩; rw [h]) | (go_at_call 61; refine (jeDep_1 k hk _).mono ?_; rintro e w2 ⟨v, rfl, hown, hb2⟩))
    go_ret2
    refine ⟨_, rfl, ?_, hb2⟩
    rw [dpP_len]
    exact hown

theorem depI_2 (t : Int) (w : World) :
    Calls Try.prog 55 #[.int .i64 2, .int .i64 t, .func (.func 62) #[] #[]] w (AnsG 41 4 fDepot (dpL 2 t) (tkOk t) w) := by
  unfold dpL
  cases h : tkOk t
  · rw [if_neg (by simp)]; exact depI_2_no t h w
  · rw [if_pos rfl]
    obtain ⟨k, hk, rfl⟩ := tk_nat h
    exact depI_2_yes k hk w
theorem depotsBack_impl (t : Int) (bt : -9223372036854775808 ≤ t ∧ t ≤ 9223372036854775807) (w : World) :
    Calls Try.prog 16 #[.int .i64 t] w (AnsG 41 4 fDepot (dpL 2 t) (tkOk t) w) := by
  go_enter Try.func16, Try.ntmps16
  go_wp2_with fail; refine (depI_2 t _).mono ?_; rintro e w1 ⟨v, rfl, hown, hb1⟩
  go_wp2
  go_ret2
  exact ⟨_, rfl, hown, hb1⟩
theorem depotsBack_spec (t : Int) (bt : -9223372036854775808 ≤ t ∧ t ≤ 9223372036854775807) (w : World) :
    Calls Try.prog 17 #[.int .i64 t] w (AnsG 41 4 fDepot (dpL 2 t) (tkOk t) w) := by
  unfold dpL
  cases h : tkOk t
  · rw [if_neg (by simp)]
    go_enter Try.func17, Try.ntmps17
    go_wp2_with (go_at_call 60; refine (jeTanks_spec _ _).mono ?_; rintro e w1 ⟨rfl, rfl⟩; rw [h])
    go_ret2
    exact ⟨_, rfl, ⟨rfl, Or.inl ⟨rfl, rfl⟩⟩, Below.refl _ _⟩
  · rw [if_pos rfl]
    obtain ⟨k, hk, rfl⟩ := tk_nat h
    go_enter Try.func17, Try.ntmps17
    go_wp2_with (first | (go_at_call 60; refine (jeTanks_spec _ _).mono ?_; rintro e w1 ⟨rfl, rfl⟩; rw [h]) | (go_at_call 61; refine (jeDep_2 k hk _).mono ?_; rintro e w2 ⟨v, rfl, hown, hb2⟩))
    go_ret2
    refine ⟨_, rfl, ?_, hb2⟩
    rw [dpP_len]
    exact hown
end Go.Proofs.Ytgpbkjakmbmccaa

/- Contracts of waysTo and CarriesOut. -/
namespace Go.Proofs.Ytgpbkjakmbmccaa
open Go.ChangeShapes Go.WideShapes Go.ChangeAt Go.RowKit Go.Joins
set_option maxRecDepth 100000
set_option linter.unusedVariables false
set_option linter.unusedSimpArgs false

theorem dpP_at (j : Int) (t i : Nat) (h : i < t - 1) : (dpP j t (t - 1))[i]? = some ⟨(atP j t (i + 1)).1, (atP j t (i + 1)).2, (fuP j (t - 1 - i)).1, (fuP j (t - 1 - i)).2⟩ := by
  simp [dpP, List.getElem?_map, h]
def wyOk (t m : Nat) : Bool :=
  decide (0 ≤ (atP 1 t m).1 ∧ (atP 1 t m).1 ≤ 1000000000) && decide (0 ≤ (atP 1 t m).2 ∧ (atP 1 t m).2 ≤ 1000000000) && decide (0 ≤ (atP 1 t (m + 1)).1 ∧ (atP 1 t (m + 1)).1 ≤ 1000000000) && decide (0 ≤ (atP 1 t (m + 1)).2 ∧ (atP 1 t (m + 1)).2 ≤ 1000000000) &&
  twoB (okk (atP 1 t (m + 1)).1 (atP 1 t (m + 1)).2 (atP 1 t m).1 (atP 1 t m).2) ((atP 1 t (m + 1)).1 * (atP 1 t m).2 - (atP 1 t m).1 * (atP 1 t (m + 1)).2) ((atP 1 t (m + 1)).2 * (atP 1 t m).2) &&
  twoN (okk (atP 1 t (m + 1)).1 (atP 1 t (m + 1)).2 (atP 1 t m).1 (atP 1 t m).2) ((atP 1 t (m + 1)).1 * (atP 1 t m).2 - (atP 1 t m).1 * (atP 1 t (m + 1)).2) ((atP 1 t (m + 1)).2 * (atP 1 t m).2) == 1 &&
  twoD (okk (atP 1 t (m + 1)).1 (atP 1 t (m + 1)).2 (atP 1 t m).1 (atP 1 t m).2) ((atP 1 t (m + 1)).1 * (atP 1 t m).2 - (atP 1 t m).1 * (atP 1 t (m + 1)).2) ((atP 1 t (m + 1)).2 * (atP 1 t m).2) == drv 1 (t - 1 - m)
theorem wy_all : ∀ t, t < 11 → ∀ m, m < t → wyOk t m = true := by decide +kernel
theorem wy_con (t m : Nat) (ht : t < 11) (hm : m < t) (W : World) :
    Calls Try.prog 28 #[.agg #[.int .i64 (atP 1 t (m + 1)).1, .int .i64 (atP 1 t (m + 1)).2], .agg #[.int .i64 (atP 1 t m).1, .int .i64 (atP 1 t m).2]] W fun e w' => e = .returned (.tuple #[.agg #[.int .i64 1, .int .i64 (drv 1 (t - 1 - m))], .bool true]) ∧ Below W.heap.size W w' := by
  have hs := wy_all t ht m hm
  simp only [wyOk, Bool.and_eq_true, beq_iff_eq, decide_eq_true_eq] at hs
  obtain ⟨⟨⟨⟨⟨⟨⟨a1, a2⟩, b1, b2⟩, c1, c2⟩, d1, d2⟩, s1⟩, s2⟩, s3⟩ := hs
  have hc := minus_pub_impl (atP 1 t (m + 1)).1 (atP 1 t (m + 1)).2 (atP 1 t m).1 (atP 1 t m).2 (by omega) (by omega) (by omega) (by omega) W
  rw [s1, s2, s3] at hc
  exact hc
/-- What each trip leaves. -/
def crP (t i : Nat) : List (Int × Int) := (List.range i).map fun (m : Nat) => (2 * ((t - 1 - m : Nat) : Int) - 1, 2 * ((t - 1 - m : Nat) : Int) + 1)
theorem crP_len (t i : Nat) : (crP t i).length = i := by simp [crP]
theorem crP_succ (t i : Nat) : crP t (i + 1) = crP t i ++ [(2 * ((t - 1 - i : Nat) : Int) - 1, 2 * ((t - 1 - i : Nat) : Int) + 1)] := by simp [crP, List.range_succ]
def crL (t : Int) : List (Int × Int) := if tkOk t = true then crP t.toNat (t.toNat - 1) else []
theorem carriesOut_len (t : Int) : (crL t).length ≤ 1000 := by
  unfold crL; split
  · rename_i h; unfold tkOk inB at h; rw [crP_len]; simp at h; omega
  · simp
theorem cr_all : ∀ k : Nat, k < 12 → 1 ≤ k → (lowN (2 * (k : Int) + 1 - 2) (2 * (k : Int) + 1), lowD (2 * (k : Int) + 1 - 2) (2 * (k : Int) + 1)) = (2 * (k : Int) - 1, 2 * (k : Int) + 1) := by decide +kernel
theorem cr_con (k : Nat) (h1 : 1 ≤ k) (h9 : k ≤ 9) (W : World) :
    Calls Try.prog 63 #[.agg #[.int .i64 1, .int .i64 (2 * (k : Int) + 1)]] W fun e w' => e = .returned (.agg #[.int .i64 (2 * (k : Int) - 1), .int .i64 (2 * (k : Int) + 1)]) ∧ Below W.heap.size W w' := by
  have hc := tlt_impl (2 * (k : Int) + 1) (by omega) (by omega) W
  have hs := cr_all k (by omega) h1
  injection hs with h2 h3
  rw [h2, h3] at hc
  exact hc

set_option maxHeartbeats 3200000 in
theorem ways_some (t g cap : Nat) (ht : t ≤ 10) (w : World) (hL : LiesG 4 fDepot w ⟨g, 0, none⟩ cap (dpP 1 t (t - 1))) (hg : g < w.heap.size) :
    Calls Try.prog 64 #[.slice (some ⟨g, 0, none⟩) (t - 1) cap] w fun e w' => ∃ v, e = .returned v ∧ w'.ownsRow w.heap.size 26 2 v (t - 1) (cellsG fAmt (pL 1 t (t - 1))) ∧ Below w.heap.size w w' := by
  obtain ⟨i0, hi, hz0, hz1, hz2⟩ := info_parts infoAmt
  have hlc := hL.hlc
  rw [dpP_len] at hlc
  have hcap := hL.hcap
  go_enter Try.func64, Try.ntmps64
  go_wp2_with (go_at_call 52; refine (whole_is_impl _ _).mono ?_; rintro e w1 ⟨rfl, rfl⟩)
  go_loopw [3, 12] (fun u c wr => ∃ (i : Nat) (v : Value), v = u ∧ i ≤ t - 1 ∧ c = .int .i64 i ∧ wr.ownsRow (w.heap.size + 1 + 1) 26 2 v i (cellsG fAmt (pL 1 t i)) ∧
      wr.cell? ⟨w.heap.size + 1, 0, none⟩ = some (.int .i64 (atP 1 t i).1) ∧ wr.cell? ⟨w.heap.size + 1, 1, none⟩ = some (.int .i64 (atP 1 t i).2) ∧ wr.frozen? ⟨w.heap.size + 1, 0, none⟩ = false ∧ wr.frozen? ⟨w.heap.size + 1, 1, none⟩ = false ∧
      w.heap.size + 1 + 1 ≤ wr.heap.size ∧ Below w.heap.size w wr) (fun _ c _ => t - 1 - (intOf c).toNat)
  case atStart =>
    refine ⟨0, _, rfl, Nat.zero_le _, rfl, ⟨rfl, Or.inl ⟨rfl, rfl⟩⟩, by rw [at_zero]; simp [go_sem], by rw [at_zero]; simp [go_sem], by simp [go_sem], by simp [go_sem], by simp, ?_⟩
    (repeat (first | with_reducible exact Below.refl _ _ | with_reducible assumption | with_reducible refine balloc ?_ _ | with_reducible refine bdrew ?_ | with_reducible refine below_drewN ?_ _ | with_reducible refine bset ?_ ?_ _ | with_reducible exact Nat.le_refl _ | with_reducible refine bsize ?_ | (dsimp only; refine Nat.le_trans ?_ (Nat.le_add_right _ _)) | with_reducible refine Nat.le_trans ?_ (Nat.le_add_right _ _) | (with_reducible refine bstep ?_ (by assumption))))
  case round =>
    obtain ⟨i, v, rfl, hit, rfl, hown, s1, s2, s3, s4, hs, hbel⟩ := hrel
    by_cases hlt : i < t - 1
    · have hLr := liesG_below hL hbel
      have hpa := dpP_at 1 t i hlt
      have c0 := hLr.hcell i _ hpa 0 _ rfl
      have c1 := hLr.hcell i _ hpa 1 _ rfl
      have c2 := hLr.hcell i _ hpa 2 _ rfl
      have c3 := hLr.hcell i _ hpa 3 _ rfl
      rw [Addr.add_lit, Nat.zero_add] at c0 c1 c2 c3
      rw [Nat.add_zero] at c0
      have hsu := pL_succ 1 t i
      have hcon := fun W => wy_con t i (by omega) (by omega) W
      generalize (fuP 1 (t - 1 - i)).1 = f1 at *
      generalize (fuP 1 (t - 1 - i)).2 = f2 at *
      generalize drv 1 (t - 1 - i) = q at *
      generalize hX : (atP 1 t (i + 1)).1 = X at *
      generalize hY : (atP 1 t (i + 1)).2 = Y at *
      generalize (atP 1 t i).1 = x at *
      generalize (atP 1 t i).2 = y at *
      have hgr : g < wr.heap.size := cell_lt c0
      have hi20 : i ≤ 20 := by omega
      have HC := Lib.hid hcon
      have HS := Lib.hid hsu
      have HX := Lib.hid hX
      have HY := Lib.hid hY
      have ne3 : v.ownBlock ≠ some (w.heap.size + 1) := own_ne hown (by omega)
      clear hcon hsu hX hY hpa hLr hL
      have hs' : w.heap.size + 1 < wr.heap.size := by omega
      go_wp2_with fail
      refine (HC.out _).mono ?_
      rintro e w3 ⟨rfl, hb3⟩
      obtain ⟨kc3, kf3, kz3, ky3, kx3, kv3, ku3⟩ := bcell hb3
      have own3 : w3.ownsRow (w.heap.size + 1 + 1) 26 2 v i (cellsG fAmt (pL 1 t i)) := by (repeat (first | with_reducible assumption | with_reducible refine own_alloc ?_ _ | with_reducible refine own_drew ?_ | with_reducible refine own_set ?_ ?_ _ | with_reducible refine ownsRow_below ?_ (by assumption)))
      have q0 : w3.cell? ⟨w.heap.size + 1, 0, none⟩ = some (.int .i64 x) := by rw [kc3 _ _ (by simp; omega)]; simp [go_sem, s1, hs']
      have q1 : w3.cell? ⟨w.heap.size + 1, 1, none⟩ = some (.int .i64 y) := by rw [kc3 _ _ (by simp; omega)]; simp [go_sem, s2, hs']
      have q2 : w3.frozen? ⟨w.heap.size + 1, 0, none⟩ = false := by rw [kf3 _ _ (by simp; omega)]; simp [go_sem, s3, hs']
      have q3 : w3.frozen? ⟨w.heap.size + 1, 1, none⟩ = false := by rw [kf3 _ _ (by simp; omega)]; simp [go_sem, s4, hs']
      have b0 : w3.cell? ⟨wr.heap.size, 0, none⟩ = some (.int .i64 X) := by rw [kc3 _ _ (by simp)]; simp [go_sem]
      have b1 : w3.cell? ⟨wr.heap.size, 1, none⟩ = some (.int .i64 Y) := by rw [kc3 _ _ (by simp)]; simp [go_sem]
      have z3 : wr.heap.size < w3.heap.size := kz3 _ (by simp)
      have z4 : w.heap.size + 1 < w3.heap.size := by omega
      have bel3 : Below w.heap.size w w3 := by (repeat (first | with_reducible exact Below.refl _ _ | with_reducible assumption | with_reducible refine balloc ?_ _ | with_reducible refine bdrew ?_ | with_reducible refine below_drewN ?_ _ | with_reducible refine bset ?_ ?_ _ | with_reducible exact Nat.le_refl _ | with_reducible refine bsize ?_ | (dsimp only; refine Nat.le_trans ?_ (Nat.le_add_right _ _)) | with_reducible refine Nat.le_trans ?_ (Nat.le_add_right _ _) | (with_reducible refine bstep ?_ (by assumption))))
      have ne4 : v.ownBlock ≠ some wr.heap.size := fun e => by have := (hown.lt _ e).2; omega
      have nb : wr.heap.size ≠ w.heap.size + 1 := by omega
      have nb2 : w.heap.size + 1 ≠ wr.heap.size := by omega
      clear kc3 kf3 kz3 ky3 kx3 kv3 ku3 hb3 hbel s1 s2 s3 s4 hown hs hs' c0 c1 c2 c3
      go_wp2_with (at_builtin; refine wpList_append_own _ rfl _ _ 33 rfl (w.heap.size + 1 + 1) 26 i0 (.agg #[.int .i64 0, .int .i64 0]) 2 16 Try.underlying33 hi hz0 hz1 hz2 rfl (by decide) v i (cellsG fAmt (pL 1 t i)) rfl ?own ⟨_, 0, none⟩ 1 1 [.int .i64 1, .int .i64 q] rfl rfl ?c1 ?c2 ?c3 ?c4 ?c5 ?_)
      case own => (repeat (first | with_reducible assumption | with_reducible refine own_alloc ?_ _ | with_reducible refine own_drew ?_ | with_reducible refine own_set ?_ ?_ _ | with_reducible refine ownsRow_below ?_ (by assumption)))
      case c1 => first | exact cell_two_new _ _ _ _ | simp [go_sem]
      case c2 => simp [Value.oneCell']
      case c3 => unfold maxLen; omega
      case c4 => omega
      case c5 => simp; omega
      intro v' w4 hown' hgrow hnn
      have hown2 : w4.ownsRow (w.heap.size + 1 + 1) 26 2 v' (i + 1) (cellsG fAmt (pL 1 t (i + 1))) := by
        rw [HS.out, cellsG_snoc]; simpa [fAmt] using hown'
      have e0 : w4.cell? ⟨w.heap.size + 1, 0, none⟩ = some (.int .i64 x) := hgrow.cell (keepa (W0 := w3) (by (repeat (first | with_reducible exact Below.refl _ _ | with_reducible assumption | with_reducible refine balloc ?_ _ | with_reducible refine bdrew ?_ | with_reducible refine below_drewN ?_ _ | with_reducible refine bset ?_ ?_ _ | with_reducible exact Nat.le_refl _ | with_reducible refine bsize ?_ | (dsimp only; refine Nat.le_trans ?_ (Nat.le_add_right _ _)) | with_reducible refine Nat.le_trans ?_ (Nat.le_add_right _ _) | (with_reducible refine bstep ?_ (by assumption))))) z4 q0) (fun e => ne3 e.symm)
      have e1 : w4.cell? ⟨w.heap.size + 1, 1, none⟩ = some (.int .i64 y) := hgrow.cell (keepa (W0 := w3) (by (repeat (first | with_reducible exact Below.refl _ _ | with_reducible assumption | with_reducible refine balloc ?_ _ | with_reducible refine bdrew ?_ | with_reducible refine below_drewN ?_ _ | with_reducible refine bset ?_ ?_ _ | with_reducible exact Nat.le_refl _ | with_reducible refine bsize ?_ | (dsimp only; refine Nat.le_trans ?_ (Nat.le_add_right _ _)) | with_reducible refine Nat.le_trans ?_ (Nat.le_add_right _ _) | (with_reducible refine bstep ?_ (by assumption))))) z4 q1) (fun e => ne3 e.symm)
      have e2 : w4.frozen? ⟨w.heap.size + 1, 0, none⟩ = false := grown_frozen hgrow (keepf (W0 := w3) (by (repeat (first | with_reducible exact Below.refl _ _ | with_reducible assumption | with_reducible refine balloc ?_ _ | with_reducible refine bdrew ?_ | with_reducible refine below_drewN ?_ _ | with_reducible refine bset ?_ ?_ _ | with_reducible exact Nat.le_refl _ | with_reducible refine bsize ?_ | (dsimp only; refine Nat.le_trans ?_ (Nat.le_add_right _ _)) | with_reducible refine Nat.le_trans ?_ (Nat.le_add_right _ _) | (with_reducible refine bstep ?_ (by assumption))))) z4 q2) (by simp; omega) (fun e => ne3 e.symm)
      have e3 : w4.frozen? ⟨w.heap.size + 1, 1, none⟩ = false := grown_frozen hgrow (keepf (W0 := w3) (by (repeat (first | with_reducible exact Below.refl _ _ | with_reducible assumption | with_reducible refine balloc ?_ _ | with_reducible refine bdrew ?_ | with_reducible refine below_drewN ?_ _ | with_reducible refine bset ?_ ?_ _ | with_reducible exact Nat.le_refl _ | with_reducible refine bsize ?_ | (dsimp only; refine Nat.le_trans ?_ (Nat.le_add_right _ _)) | with_reducible refine Nat.le_trans ?_ (Nat.le_add_right _ _) | (with_reducible refine bstep ?_ (by assumption))))) z4 q3) (by simp; omega) (fun e => ne3 e.symm)
      have d0 : w4.cell? ⟨wr.heap.size, 0, none⟩ = some (.int .i64 X) := hgrow.cell (keepa (W0 := w3) (by (repeat (first | with_reducible exact Below.refl _ _ | with_reducible assumption | with_reducible refine balloc ?_ _ | with_reducible refine bdrew ?_ | with_reducible refine below_drewN ?_ _ | with_reducible refine bset ?_ ?_ _ | with_reducible exact Nat.le_refl _ | with_reducible refine bsize ?_ | (dsimp only; refine Nat.le_trans ?_ (Nat.le_add_right _ _)) | with_reducible refine Nat.le_trans ?_ (Nat.le_add_right _ _) | (with_reducible refine bstep ?_ (by assumption))))) z3 b0) (fun e => ne4 e.symm)
      have d1 : w4.cell? ⟨wr.heap.size, 1, none⟩ = some (.int .i64 Y) := hgrow.cell (keepa (W0 := w3) (by (repeat (first | with_reducible exact Below.refl _ _ | with_reducible assumption | with_reducible refine balloc ?_ _ | with_reducible refine bdrew ?_ | with_reducible refine below_drewN ?_ _ | with_reducible refine bset ?_ ?_ _ | with_reducible exact Nat.le_refl _ | with_reducible refine bsize ?_ | (dsimp only; refine Nat.le_trans ?_ (Nat.le_add_right _ _)) | with_reducible refine Nat.le_trans ?_ (Nat.le_add_right _ _) | (with_reducible refine bstep ?_ (by assumption))))) z3 b1) (fun e => ne4 e.symm)
      have bel4 : Below w.heap.size w w4 := by
        refine grown_bel (base := w.heap.size + 1 + 1) (e := 26) (size := 2) (n := i) (xs := cellsG fAmt (pL 1 t i)) ?_ hgrow (by (repeat (first | with_reducible assumption | with_reducible refine own_alloc ?_ _ | with_reducible refine own_drew ?_ | with_reducible refine own_set ?_ ?_ _ | with_reducible refine ownsRow_below ?_ (by assumption)))) (by omega)
        (repeat (first | with_reducible exact Below.refl _ _ | with_reducible assumption | with_reducible refine balloc ?_ _ | with_reducible refine bdrew ?_ | with_reducible refine below_drewN ?_ _ | with_reducible refine bset ?_ ?_ _ | with_reducible exact Nat.le_refl _ | with_reducible refine bsize ?_ | (dsimp only; refine Nat.le_trans ?_ (Nat.le_add_right _ _)) | with_reducible refine Nat.le_trans ?_ (Nat.le_add_right _ _) | (with_reducible refine bstep ?_ (by assumption))))
      have hz4 : w.heap.size + 1 < w4.heap.size := by have := hgrow.size; simp at this; omega
      have ne5 : v'.ownBlock ≠ some (w.heap.size + 1) := own_ne hown' (by omega)
      clear hown' hgrow hnn own3 q0 q1 q2 q3 b0 b1 z3 z4 bel3 ne3 ne4
      go_wp2
      go_roundw
      case rel =>
        refine ⟨i + 1, _, rfl, by omega, by go_num, ?_, by rw [HX.out]; simp [go_sem, e0, e1, hz4], by rw [HY.out]; simp [go_sem, e0, e1, hz4], by simp [go_sem, e2, e3, hz4], by simp [go_sem, e2, e3, hz4], by simp; omega, ?_⟩
        · first | exact own_set (own_set hown2 ne5 _) ne5 _ | exact hown2
        · (repeat (first | with_reducible exact Below.refl _ _ | with_reducible assumption | with_reducible refine balloc ?_ _ | with_reducible refine bdrew ?_ | with_reducible refine below_drewN ?_ _ | with_reducible refine bset ?_ ?_ _ | with_reducible exact Nat.le_refl _ | with_reducible refine bsize ?_ | (dsimp only; refine Nat.le_trans ?_ (Nat.le_add_right _ _)) | with_reducible refine Nat.le_trans ?_ (Nat.le_add_right _ _) | (with_reducible refine bstep ?_ (by assumption))))
          all_goals (simp; done)
      case measure => simp [intOf]; omega
    · have hit' : i = t - 1 := by omega
      subst hit'
      clear hL
      go_wp2
      go_ret
      exact ⟨_, rfl, own_mono hown (by omega), hbel⟩

theorem ways_nil (c : Nat) (w : World) :
    Calls Try.prog 64 #[.slice none 0 c] w fun e w' => ∃ v, e = .returned v ∧ w'.ownsRow w.heap.size 26 2 v 0 [] ∧ Below w.heap.size w w' := by
  go_enter Try.func64, Try.ntmps64
  go_wp2_with (go_at_call 52; refine (whole_is_impl _ _).mono ?_; rintro e w1 ⟨rfl, rfl⟩)
  go_loopw [3, 12] (fun v i wr => v = .slice none 0 0 ∧ i = .int .i64 0 ∧ Below w.heap.size w wr) (fun _ _ _ => 0)
  case atStart =>
    refine ⟨rfl, rfl, ?_⟩
    (repeat (first | with_reducible exact Below.refl _ _ | with_reducible assumption | with_reducible refine balloc ?_ _ | with_reducible refine bdrew ?_ | with_reducible refine below_drewN ?_ _ | with_reducible refine bset ?_ ?_ _ | with_reducible exact Nat.le_refl _ | with_reducible refine bsize ?_ | (dsimp only; refine Nat.le_trans ?_ (Nat.le_add_right _ _)) | with_reducible refine Nat.le_trans ?_ (Nat.le_add_right _ _) | (with_reducible refine bstep ?_ (by assumption))))
  case round =>
    obtain ⟨rfl, rfl, hbel⟩ := hrel
    go_wp2
    go_ret
    exact ⟨_, rfl, ⟨rfl, Or.inl ⟨rfl, rfl⟩⟩, hbel⟩
theorem ways_impl (t : Nat) (ht : t ≤ 10) (v : Value) (w0 w : World) (base : Nat) (h : w.ownsRow base 41 4 v (t - 1) (cellsG fDepot (dpP 1 t (t - 1)))) (hbd : ∀ p ∈ dpP 1 t (t - 1), ∀ y ∈ fDepot p, -9223372036854775808 ≤ y ∧ y ≤ 9223372036854775807) :
    Calls Try.prog 64 #[v] w fun e w' => ∃ u, e = .returned u ∧ w'.ownsRow w.heap.size 26 2 u (t - 1) (cellsG fAmt (pL 1 t (t - 1))) ∧ Below w.heap.size w w' := by
  have h' := h
  obtain ⟨_, hs⟩ := h
  rcases hs with ⟨rfl, h0⟩ | ⟨g, cap, cur, rfl, _⟩
  · rw [h0]
    exact ways_nil 0 w
  · have hL := liesG_own (l := dpP 1 t (t - 1)) fDepot_len (by rw [dpP_len]; exact h') hbd
    exact ways_some t g cap ht w hL (own_lt h' rfl)
end Go.Proofs.Ytgpbkjakmbmccaa

/- Contracts of CarriesOut, on both sides. -/
namespace Go.Proofs.Ytgpbkjakmbmccaa
open Go.ChangeShapes Go.WideShapes Go.ChangeAt Go.RowKit Go.Joins
set_option maxRecDepth 100000
set_option linter.unusedVariables false
set_option linter.unusedSimpArgs false

theorem dpP_bd (t : Nat) (ht : t ≤ 10) : ∀ p ∈ dpP 1 t (t - 1), ∀ y ∈ fDepot p, -9223372036854775808 ≤ y ∧ y ≤ 9223372036854775807 := by
  intro p hp y hy
  simp only [dpP, List.mem_map, List.mem_range] at hp
  obtain ⟨m, hm, rfl⟩ := hp
  have hs := wy_all t (by omega) m (by omega)
  simp only [wyOk, Bool.and_eq_true, beq_iff_eq, decide_eq_true_eq] at hs
  obtain ⟨⟨⟨⟨⟨⟨⟨a1, a2⟩, b1, b2⟩, c1, c2⟩, d1, d2⟩, s1⟩, s2⟩, s3⟩ := hs
  simp [fDepot, fuP] at hy
  omega
theorem pL_bd' (t : Nat) (ht : t ≤ 10) : ∀ p ∈ pL 1 t (t - 1), ∀ y ∈ fAmt p, -9223372036854775808 ≤ y ∧ y ≤ 9223372036854775807 := pL_bd 1 t (t - 1) (Or.inl rfl) (by omega)
set_option maxHeartbeats 800000 in
theorem carI_no (t : Int) (bt : -9223372036854775808 ≤ t ∧ t ≤ 9223372036854775807) (h : tkOk t = false) (w : World) :
    Calls Try.prog 20 #[.int .i64 t] w (AnsG 26 2 fAmt [] false w) := by
  have hcon : ∀ W, Calls Try.prog 12 #[.int .i64 t] W (AnsG 41 4 fDepot [] false W) := by
    intro W
    have := depotsOut_impl t bt W
    unfold dpL at this
    rw [h] at this
    simpa using this
  have HC := Lib.hid hcon
  clear hcon
  go_enter Try.func20, Try.ntmps20
  go_wp2_with fail; refine (HC.out _).mono ?_; rintro e w1 ⟨v, rfl, hown, hb1⟩
  go_wp2
  go_ret2
  exact ⟨_, rfl, ⟨rfl, Or.inl ⟨rfl, rfl⟩⟩, hb1⟩
set_option maxHeartbeats 1600000 in
theorem carI_yes (t : Nat) (ht : t ≤ 10) (w : World) :
    Calls Try.prog 20 #[.int .i64 t] w (AnsG 26 2 fAmt (crP t (t - 1)) true w) := by
  obtain ⟨i0, hi, hz0, hz1, hz2⟩ := info_parts infoAmt
  have hcon : ∀ W, Calls Try.prog 12 #[.int .i64 t] W (AnsG 41 4 fDepot (dpP 1 t (t - 1)) true W) := by
    intro W
    have hk : tkOk t = true := by unfold tkOk inB; simp; omega
    have := depotsOut_impl t (by omega) W
    unfold dpL at this
    rw [hk] at this
    simpa using this
  have HC := Lib.hid hcon
  clear hcon
  go_enter Try.func20, Try.ntmps20
  go_wp2_with fail; refine (HC.out _).mono ?_; rintro e w1 ⟨v, rfl, hown, hb1⟩
  rw [dpP_len] at hown
  go_wp2_with fail; refine (ways_impl t ht _ w _ _ hown (dpP_bd t ht)).mono ?_; rintro e w2 ⟨u, rfl, hu, hb2⟩
  have ha2 := bstep hb1 hb2
  obtain ⟨a, c, rfl⟩ := owns_shape hu
  clear hown hb1 hb2
  go_wp2
  go_loopw [6, 19] (fun u c wr => ∃ (i : Nat) (v : Value), v = u ∧ i ≤ t - 1 ∧ c = .int .i64 i ∧ wr.ownsRow w2.heap.size 26 2 v i (cellsG fAmt (crP t i)) ∧ Below w2.heap.size w2 wr) (fun _ c _ => t - 1 - (intOf c).toNat)
  case atStart => exact ⟨0, _, rfl, Nat.zero_le _, rfl, ⟨rfl, Or.inl ⟨rfl, rfl⟩⟩, Below.refl _ _⟩
  case round =>
    obtain ⟨i, v, rfl, hit, rfl, hown, hbel⟩ := hrel
    by_cases hlt : i < t - 1
    · obtain ⟨k, hk⟩ : ∃ k : Nat, k + i + 1 = t := ⟨t - 1 - i, by omega⟩
      have hk1 : 1 ≤ k := by omega
      have hk2 : k ≤ 9 := by omega
      have hi20 : i ≤ 20 := by omega
      obtain ⟨g, rfl⟩ : ∃ g, a = some ⟨g, 0, none⟩ := by
        rcases hu.2 with ⟨_, h0⟩ | ⟨g, cap, cur, hv, _⟩
        · omega
        · injection hv with h1 _ _; exact ⟨g, h1⟩
      have hL : LiesG 2 fAmt w2 ⟨g, 0, none⟩ c (pL 1 t (t - 1)) := liesG_own (l := pL 1 t (t - 1)) fAmt_len (by rw [pL_len]; exact hu) (pL_bd' t ht)
      have hLr := liesG_below hL hbel
      have hlc := hL.hlc
      rw [pL_len] at hlc
      have hcap := hL.hcap
      have hpa : (pL 1 t (t - 1))[i]? = some (1, 2 * (k : Int) + 1) := by
        rw [pL_get 1 t (t - 1) i hlt (by omega), pL_at 1 t i (by omega), show t - 1 - i = k by omega]; rfl
      have c0 := hLr.hcell i _ hpa 0 _ rfl
      have c1 := hLr.hcell i _ hpa 1 _ rfl
      rw [Addr.add_lit, Nat.zero_add] at c0 c1
      rw [Nat.add_zero] at c0
      have hgr : g < wr.heap.size := cell_lt c0
      have hsu := crP_succ t i
      rw [show t - 1 - i = k by omega] at hsu
      have HS := Lib.hid hsu
      have hcr := fun W => cr_con k hk1 hk2 W
      have HR := Lib.hid hcr
      clear hsu hcr hpa hLr hL hk
      go_wp2_with fail
      refine (HR.out _).mono ?_
      rintro e w3 ⟨rfl, hb3⟩
      have own3 : w3.ownsRow w2.heap.size 26 2 v i (cellsG fAmt (crP t i)) := by (repeat (first | with_reducible assumption | with_reducible refine own_alloc ?_ _ | with_reducible refine own_drew ?_ | with_reducible refine own_set ?_ ?_ _ | with_reducible refine ownsRow_below ?_ (by assumption)))
      have bel3 : Below w2.heap.size w2 w3 := by (repeat (first | with_reducible exact Below.refl _ _ | with_reducible assumption | with_reducible refine balloc ?_ _ | with_reducible refine bdrew ?_ | with_reducible refine below_drewN ?_ _ | with_reducible refine bset ?_ ?_ _ | with_reducible exact Nat.le_refl _ | with_reducible refine bsize ?_ | (dsimp only; refine Nat.le_trans ?_ (Nat.le_add_right _ _)) | with_reducible refine Nat.le_trans ?_ (Nat.le_add_right _ _) | (with_reducible refine bstep ?_ (by assumption))))
      clear hown hbel hb3 c0 c1 hgr
      go_wp2_with (at_builtin; refine wpList_append_own _ rfl _ _ 33 rfl w2.heap.size 26 i0 (.agg #[.int .i64 0, .int .i64 0]) 2 16 Try.underlying33 hi hz0 hz1 hz2 rfl (by decide) v i (cellsG fAmt (crP t i)) rfl (own3.alloc _) ⟨_, 0, none⟩ 1 1 [.int .i64 (2 * (k : Int) - 1), .int .i64 (2 * (k : Int) + 1)] rfl rfl ?c1 ?c2 ?c3 ?c4 ?c5 ?_)
      case c1 => exact cell_two_new _ _ _ _
      case c2 => simp [Value.oneCell']
      case c3 => unfold maxLen; omega
      case c4 => omega
      case c5 => have := bel3.size; simp; omega
      intro v' w4 hown' hgrow hnn
      have hown2 : w4.ownsRow w2.heap.size 26 2 v' (i + 1) (cellsG fAmt (crP t (i + 1))) := by
        rw [HS.out, cellsG_snoc]; simpa [fAmt] using hown'
      have bel4 : Below w2.heap.size w2 w4 := by
        refine grown_bel (base := w2.heap.size) (e := 26) (size := 2) (n := i) (xs := cellsG fAmt (crP t i)) ?_ hgrow (own3.alloc _) (Nat.le_refl _)
        (repeat (first | with_reducible exact Below.refl _ _ | with_reducible assumption | with_reducible refine balloc ?_ _ | with_reducible refine bdrew ?_ | with_reducible refine below_drewN ?_ _ | with_reducible refine bset ?_ ?_ _ | with_reducible exact Nat.le_refl _ | with_reducible refine bsize ?_ | (dsimp only; refine Nat.le_trans ?_ (Nat.le_add_right _ _)) | with_reducible refine Nat.le_trans ?_ (Nat.le_add_right _ _) | (with_reducible refine bstep ?_ (by assumption))))
      clear hown' hgrow hnn own3 bel3
      go_wp2
      go_roundw
      case rel => exact ⟨i + 1, _, rfl, by omega, by go_num, hown2, bel4⟩
      case measure => simp [intOf]; omega
    · have hit' : i = t - 1 := by omega
      subst hit'
      have hb0 := ha2.size
      go_wp2
      go_ret2
      exact ⟨_, rfl, by rw [crP_len]; exact own_mono hown hb0, bstep ha2 hbel⟩
theorem carS_no (t : Int) (h : tkOk t = false) (w : World) :
    Calls Try.prog 21 #[.int .i64 t] w (AnsG 26 2 fAmt [] false w) := by
  go_enter Try.func21, Try.ntmps21
  go_wp2_with (go_at_call 60; refine (jeTanks_spec _ _).mono ?_; rintro e w1 ⟨rfl, rfl⟩; rw [h])
  go_ret2
  exact ⟨_, rfl, ⟨rfl, Or.inl ⟨rfl, rfl⟩⟩, Below.refl _ _⟩
set_option maxHeartbeats 1600000 in
theorem carS_yes (t : Nat) (ht : t ≤ 10) (w : World) :
    Calls Try.prog 21 #[.int .i64 t] w (AnsG 26 2 fAmt (crP t (t - 1)) true w) := by
  obtain ⟨i0, hi, hz0, hz1, hz2⟩ := info_parts infoAmt
  have h : tkOk t = true := by unfold tkOk inB; simp; omega
  go_enter Try.func21, Try.ntmps21
  go_wp2_with (go_at_call 60; refine (jeTanks_spec _ _).mono ?_; rintro e w1 ⟨rfl, rfl⟩; rw [h])
  go_loopw [4, 5] (fun u c wr => ∃ (i : Nat) (v : Value), v = u ∧ i ≤ t - 1 ∧ c = .int .i64 ((t : Int) - 1 - i) ∧ wr.ownsRow w.heap.size 26 2 v i (cellsG fAmt (crP t i)) ∧ Below w.heap.size w wr) (fun _ c _ => (intOf c + 1).toNat)
  case atStart => exact ⟨0, _, rfl, Nat.zero_le _, by simp, ⟨rfl, Or.inl ⟨rfl, rfl⟩⟩, Below.refl _ _⟩
  case round =>
    obtain ⟨i, v, rfl, hit, rfl, hown, hbel⟩ := hrel
    by_cases hlt : i < t - 1
    · obtain ⟨k, hk⟩ : ∃ k : Nat, k + i + 1 = t := ⟨t - 1 - i, by omega⟩
      have hc : (t : Int) - 1 - i = (k : Int) := by omega
      rw [hc]
      have hk1 : 1 ≤ k := by omega
      have hk2 : k ≤ 9 := by omega
      have hi20 : i ≤ 20 := by omega
      have hsu := crP_succ t i
      rw [show t - 1 - i = k by omega] at hsu
      have HS := Lib.hid hsu
      have HK := Lib.hid hk
      have hsz : w.heap.size ≤ wr.heap.size := hbel.size
      clear hsu hk hc h
      go_wp2_with (at_builtin; refine wpList_append_own _ rfl _ _ 33 rfl w.heap.size 26 i0 (.agg #[.int .i64 0, .int .i64 0]) 2 16 Try.underlying33 hi hz0 hz1 hz2 rfl (by decide) v i (cellsG fAmt (crP t i)) rfl (hown.alloc _) ⟨_, 0, none⟩ 1 1 [.int .i64 (2 * (k : Int) - 1), .int .i64 (2 * (k : Int) + 1)] rfl rfl ?c1 ?c2 ?c3 ?c4 ?c5 ?_)
      case c1 => exact cell_two_new _ _ _ _
      case c2 => simp [Value.oneCell']
      case c3 => unfold maxLen; omega
      case c4 => omega
      case c5 => simp; omega
      intro v' w4 hown' hgrow hnn
      have hown2 : w4.ownsRow w.heap.size 26 2 v' (i + 1) (cellsG fAmt (crP t (i + 1))) := by
        rw [HS.out, cellsG_snoc]; simpa [fAmt] using hown'
      have bel4 : Below w.heap.size w w4 := by
        refine grown_bel (base := w.heap.size) (e := 26) (size := 2) (n := i) (xs := cellsG fAmt (crP t i)) ?_ hgrow (hown.alloc _) (Nat.le_refl _)
        (repeat (first | with_reducible exact Below.refl _ _ | with_reducible assumption | with_reducible refine balloc ?_ _ | with_reducible refine bdrew ?_ | with_reducible refine below_drewN ?_ _ | with_reducible refine bset ?_ ?_ _ | with_reducible exact Nat.le_refl _ | with_reducible refine bsize ?_ | (dsimp only; refine Nat.le_trans ?_ (Nat.le_add_right _ _)) | with_reducible refine Nat.le_trans ?_ (Nat.le_add_right _ _) | (with_reducible refine bstep ?_ (by assumption))))
      clear hown' hgrow hnn hown hbel
      go_wp2
      go_roundw
      case rel => exact ⟨i + 1, _, rfl, by omega, by have := HK.out; congr 1; omega, hown2, bel4⟩
      case measure => first | (simp [intOf]; done) | (simp [intOf]; omega)
    · have hit' : i = t - 1 := by omega
      subst hit'
      have hc : ∃ y : Int, (t : Int) - 1 - ((t - 1 : Nat) : Int) = y ∧ y ≤ 0 ∧ -1 ≤ y := ⟨_, rfl, by omega, by omega⟩
      obtain ⟨y, hy, y0, y1⟩ := hc
      rw [hy]
      clear hy h
      go_wp2
      go_ret2
      exact ⟨_, rfl, by rw [crP_len]; exact hown, hbel⟩
theorem carriesOut_spec (t : Int) (bt : -9223372036854775808 ≤ t ∧ t ≤ 9223372036854775807) (w : World) :
    Calls Try.prog 21 #[.int .i64 t] w (AnsG 26 2 fAmt (crL t) (tkOk t) w) := by
  unfold crL
  cases h : tkOk t
  · rw [if_neg (by simp)]; exact carS_no t h w
  · rw [if_pos rfl]
    obtain ⟨k, hk, rfl⟩ := tk_nat h
    exact carS_yes k hk w
theorem carriesOut_impl (t : Int) (bt : -9223372036854775808 ≤ t ∧ t ≤ 9223372036854775807) (w : World) :
    Calls Try.prog 20 #[.int .i64 t] w (AnsG 26 2 fAmt (crL t) (tkOk t) w) := by
  unfold crL
  cases h : tkOk t
  · rw [if_neg (by simp)]; exact carI_no t bt h w
  · rw [if_pos rfl]
    obtain ⟨k, hk, rfl⟩ := tk_nat h
    exact carI_yes k hk w
end Go.Proofs.Ytgpbkjakmbmccaa

/- Jeeps as camels: what the calls answer for up to six tanks, by a table. -/
namespace Go.Proofs.Ytgpbkjakmbmccaa
open Go.ChangeShapes Go.WideShapes Go.ChangeAt Go.RowKit Go.Joins
set_option maxRecDepth 100000
set_option linter.unusedVariables false
set_option linter.unusedSimpArgs false

def jcOk (t : Nat) : Bool :=
  mkB t 1 && mkN t 1 == t && mkD t 1 == 1 && twoB (wayWithK 1 1 t 1 0 1) (wayWithX 1 1 t 1 0 1) (wayWithM 1 1 t 1 0 1) && twoN (wayWithK 1 1 t 1 0 1) (wayWithX 1 1 t 1 0 1) (wayWithM 1 1 t 1 0 1) == fwX 1 t 1 && twoD (wayWithK 1 1 t 1 0 1) (wayWithX 1 1 t 1 0 1) (wayWithM 1 1 t 1 0 1) == fwY 1 t 1 && fwB 1 t 1 && askB 1 1 t 1 && tkOk t && (soL 1 1 t 1).length == t - 1
def jcAt (t i : Nat) : Bool :=
  let p := (soL 1 1 t 1).getD i (0, 0)
  let d := (dpP 1 t (t - 1)).getD i default
  p.1 == d.a && p.2 == d.b && inB p.1 0 1000000000 && inB p.2 0 1000000000 && twoB (leftAtK 1 1 t 1 p.1 p.2) (leftAtX 1 1 t 1 p.1 p.2) (leftAtM 1 1 t 1 p.1 p.2) && twoN (leftAtK 1 1 t 1 p.1 p.2) (leftAtX 1 1 t 1 p.1 p.2) (leftAtM 1 1 t 1 p.1 p.2) == d.n && twoD (leftAtK 1 1 t 1 p.1 p.2) (leftAtX 1 1 t 1 p.1 p.2) (leftAtM 1 1 t 1 p.1 p.2) == d.d
theorem jc_all : ∀ t, t < 7 → 1 ≤ t → jcOk t = true := by decide +kernel
theorem jc_at : ∀ t, t < 7 → ∀ i, i < t - 1 → jcAt t i = true := by decide +kernel
section
variable (t : Nat) (h1 : 1 ≤ t) (h6 : t ≤ 6)
include h1 h6
theorem jc_mk (W : World) : Calls Try.prog 8 #[.int .i64 t, .int .i64 1] W fun e w' => e = .returned (.tuple #[.agg #[.int .i64 t, .int .i64 1], .bool true]) ∧ Below W.heap.size W w' := by
  have h := jc_all t (by omega) h1
  simp only [jcOk, Bool.and_eq_true, beq_iff_eq] at h
  obtain ⟨⟨⟨⟨⟨⟨⟨⟨⟨e1, e2⟩, e3⟩, e4⟩, e5⟩, e6⟩, e7⟩, e8⟩, e9⟩, e10⟩ := h
  have h := mk_impl t 1 W
  rw [e1, e2, e3] at h
  exact h
theorem jc_far (W : World) : Calls Try.prog 9 #[.agg #[.int .i64 1, .int .i64 1], .agg #[.int .i64 t, .int .i64 1]] W fun e w' => e = .returned (.tuple #[.agg #[.int .i64 (fwX 1 t 1), .int .i64 (fwY 1 t 1)], .bool true]) ∧ Below W.heap.size W w' := by
  have h := jc_all t (by omega) h1
  simp only [jcOk, Bool.and_eq_true, beq_iff_eq] at h
  obtain ⟨⟨⟨⟨⟨⟨⟨⟨⟨e1, e2⟩, e3⟩, e4⟩, e5⟩, e6⟩, e7⟩, e8⟩, e9⟩, e10⟩ := h
  have h := far_impl 1 1 t 1 (by omega) (by omega) W
  rw [e4, e5, e6] at h
  exact h
theorem jc_out (W : World) : Calls Try.prog 10 #[.agg #[.int .i64 t, .int .i64 1]] W fun e w' => e = .returned (.tuple #[.agg #[.int .i64 (fwX 1 t 1), .int .i64 (fwY 1 t 1)], .bool true]) ∧ Below W.heap.size W w' := by
  have h := jc_all t (by omega) h1
  simp only [jcOk, Bool.and_eq_true, beq_iff_eq] at h
  obtain ⟨⟨⟨⟨⟨⟨⟨⟨⟨e1, e2⟩, e3⟩, e4⟩, e5⟩, e6⟩, e7⟩, e8⟩, e9⟩, e10⟩ := h
  have h := fwOut_impl t 1 (by omega) (by omega) W
  rw [e7] at h
  exact h
theorem jc_stops (W : World) : Calls Try.prog 11 #[.agg #[.int .i64 1, .int .i64 1], .agg #[.int .i64 t, .int .i64 1]] W (AnsG 26 2 fAmt (soL 1 1 t 1) true W) := by
  have h := jc_all t (by omega) h1
  simp only [jcOk, Bool.and_eq_true, beq_iff_eq] at h
  obtain ⟨⟨⟨⟨⟨⟨⟨⟨⟨e1, e2⟩, e3⟩, e4⟩, e5⟩, e6⟩, e7⟩, e8⟩, e9⟩, e10⟩ := h
  have h := stops_impl 1 1 t 1 (by omega) (by omega) W
  rw [e8] at h
  exact h
theorem jc_dep (W : World) : Calls Try.prog 12 #[.int .i64 t] W (AnsG 41 4 fDepot (dpP 1 t (t - 1)) true W) := by
  have h := jc_all t (by omega) h1
  simp only [jcOk, Bool.and_eq_true, beq_iff_eq] at h
  obtain ⟨⟨⟨⟨⟨⟨⟨⟨⟨e1, e2⟩, e3⟩, e4⟩, e5⟩, e6⟩, e7⟩, e8⟩, e9⟩, e10⟩ := h
  have h := depotsOut_impl t (by omega) W
  unfold dpL at h
  rw [e9, if_pos rfl] at h
  exact h
theorem jc_len : (soL 1 1 t 1).length = t - 1 := by
  have h := jc_all t (by omega) h1
  simp only [jcOk, Bool.and_eq_true, beq_iff_eq] at h
  exact h.2
end
def jcBd (t : Nat) : Bool := (soL 1 1 t 1).all fun p => (fAmt p).all fun y => decide (-9223372036854775808 ≤ y ∧ y ≤ 9223372036854775807)
theorem jc_bd_all : ∀ t, t < 7 → jcBd t = true := by decide +kernel
theorem jc_bd (t : Nat) (h6 : t ≤ 6) : ∀ p ∈ soL 1 1 t 1, ∀ y ∈ fAmt p, -9223372036854775808 ≤ y ∧ y ≤ 9223372036854775807 := by
  have h := jc_bd_all t (by omega)
  simp only [jcBd, List.all_eq_true, decide_eq_true_eq] at h
  exact h
theorem jc_left (t i : Nat) (h6 : t ≤ 6) (hi : i < t - 1) : ∃ a b n d : Int, (soL 1 1 t 1)[i]? = some (a, b) ∧ (dpP 1 t (t - 1))[i]? = some ⟨a, b, n, d⟩ ∧
    ∀ W, Calls Try.prog 13 #[.agg #[.int .i64 1, .int .i64 1], .agg #[.int .i64 t, .int .i64 1], .agg #[.int .i64 a, .int .i64 b]] W fun e w' => e = .returned (.tuple #[.agg #[.int .i64 n, .int .i64 d], .bool true]) ∧ Below W.heap.size W w' := by
  have h := jc_at t (by omega) i hi
  have l1 := jc_len t (by omega) h6
  have l2 := dpP_len 1 t (t - 1)
  simp only [jcAt, Bool.and_eq_true, beq_iff_eq] at h
  obtain ⟨⟨⟨⟨⟨⟨e1, e2⟩, b1⟩, b2⟩, e3⟩, e4⟩, e5⟩ := h
  obtain ⟨p, hp⟩ : ∃ p, (soL 1 1 t 1)[i]? = some p := ⟨_, List.getElem?_eq_getElem (by omega)⟩
  obtain ⟨q, hq⟩ : ∃ q, (dpP 1 t (t - 1))[i]? = some q := ⟨_, List.getElem?_eq_getElem (by omega)⟩
  rw [List.getD_eq_getElem?_getD, hp] at e1 e2 b1 b2 e3 e4 e5
  rw [List.getD_eq_getElem?_getD, hq] at e1 e2 e4 e5
  simp only [Option.getD_some] at e1 e2 b1 b2 e3 e4 e5
  simp only [inB, decide_eq_true_eq] at b1 b2
  refine ⟨p.1, p.2, q.n, q.d, hp, ?_, fun W => ?_⟩
  · rw [hq, e1, e2]
  · have h := leftAt_pub 1 1 t 1 p.1 p.2 (by omega) (by omega) (by omega) (by omega) W
    rw [e3, e4, e5] at h
    exact h
end Go.Proofs.Ytgpbkjakmbmccaa

/- The laws' draws: a reader of bytes; one number of it. -/
namespace Go.Proofs.Ytgpbkjakmbmccaa
open Go.ChangeShapes Go.WideShapes Go.ChangeAt Go.RowKit Go.Joins
set_option maxRecDepth 100000
set_option linter.unusedVariables false
set_option linter.unusedSimpArgs false

/-- Bytes that are given: none, or some that lie somewhere. -/
def BytesAt (W : World) (v : Value) : Prop := v = .slice none 0 0 ∨ ∃ (a : Addr) (n cap : Nat), v = .slice (some a) n cap ∧ n ≤ cap ∧ cap ≤ 9223372036854775807 ∧ ∀ i : Nat, i < n → ∃ y : Int, W.cell? (a.add i) = some (.int .u8 y) ∧ 0 ≤ y ∧ y ≤ 255
theorem bytesAt_below {W W' : World} {v : Value} (h : BytesAt W v) (hb : Below W.heap.size W W') : BytesAt W' v := by
  rcases h with h | ⟨a, n, cap, h, h1, h2, h3⟩
  · exact Or.inl h
  · refine Or.inr ⟨a, n, cap, h, h1, h2, fun i hi => ?_⟩
    obtain ⟨y, hy, b1, b2⟩ := h3 i hi
    exact ⟨y, (hb.cell (cell_lt hy)).trans hy, b1, b2⟩
theorem cellsByte : Try.prog.cellsOf 5 = 1 := by kernel_rfl
theorem byte_bounds {x : Int} (h : (Lit.int .u8 x).wf = true) : 0 ≤ x ∧ x ≤ 255 := by
  simpa [Lit.wf, IntKind.min, IntKind.max, IntKind.signed, IntKind.bits] using h
theorem open_bytes {H : Type} {enc : TypeId × Value → H} {W : World} {base b0 : Nat} {spare : Nat → Bool} {held : Bool} {v : Value} {d : DataW H} {pl : List MemPlace}
    (hv : Value.okWide Try.prog W .any b0 22 v) (h : DataW.Trod enc Try.prog W base spare held 22 v d pl) : BytesAt W v := by
  obtain ⟨a0, len0, cap0, rfl⟩ := okWide_slice Try.underlying22 hv
  obtain ⟨fuel, hf⟩ := h
  rcases Deep.open_slice Try.underlying22 hf with ⟨hc, _⟩ | ⟨a, len, cap, k, n, D, Pl, hc, hb, hl, hmx, hmm, hx, hi⟩
  · left; simpa [Value.cells] using hc
  · right
    have hlm : len ≤ k := by rw [hmm]; split <;> omega
    have e : Value.slice a0 len0 cap0 = .slice (some a) len cap := by simpa [Value.cells] using hc
    refine ⟨a, len, cap, e, by simpa using hl, by unfold maxLen at hmx; omega, fun i hi' => ?_⟩
    obtain ⟨cs', hcs, htr⟩ := hi i (by omega)
    rw [cellsByte] at hcs
    obtain ⟨_, hcl, hat⟩ := World.cells?_some hcs
    obtain ⟨y, rfl, _, wy⟩ := DataW.trod_int Try.underlying5 htr
    have h0 := hat 0 (by omega)
    rw [Deep.add_add] at h0
    refine ⟨y, ?_, byte_bounds wy⟩
    simpa using h0
/-- The reader in block b: its bytes, how many numbers were read, and its seed. -/
def CurAt (b : Nat) (v : Value) (N : Nat) (w : World) : Prop := ∃ (k : Nat) (s : Int), w.cell? ⟨b, 0, none⟩ = some v ∧ w.cell? ⟨b, 1, none⟩ = some (.int .i64 k) ∧ w.cell? ⟨b, 2, none⟩ = some (.int .u64 s) ∧ w.frozen? ⟨b, 1, none⟩ = false ∧ w.frozen? ⟨b, 2, none⟩ = false ∧ b < w.heap.size ∧ k ≤ N
/-- What a call keeps that writes into the reader alone: every older world's memory, and the bytes. -/
def CurKeep (b : Nat) (w w' : World) : Prop := ∀ w0 : World, w0.heap.size ≤ b → Below w0.heap.size w0 w → Below w0.heap.size w0 w'
theorem curKeep_trans {b : Nat} {w w1 w2 : World} (h1 : CurKeep b w w1) (h2 : CurKeep b w1 w2) : CurKeep b w w2 := fun w0 hb h => h2 w0 hb (h1 w0 hb h)
set_option maxHeartbeats 1600000 in
theorem next_c (b : Nat) (v : Value) (N : Nat) (hN : N ≤ 1000000) (w w0 : World) (hw0 : w0.heap.size ≤ b) (hb0 : Below w0.heap.size w0 w) (hv : BytesAt w0 v) (hC : CurAt b v N w) :
    Calls Try.prog 83 #[.pointer (some ⟨b, 0, none⟩)] w fun e w' => (∃ x : Int, e = .returned (.int .i64 x)) ∧ CurAt b v (N + 1) w' ∧ CurKeep b w w' := by
  have hv2 := bytesAt_below hv hb0
  obtain ⟨k, s, c0, c1, c2, f1, f2, bz, hk⟩ := hC
  obtain ⟨a, n, cap, rfl, hn⟩ : ∃ (a : Option Addr) (n cap : Nat), v = .slice a n cap ∧ n ≤ 9223372036854775807 := by
    rcases hv2 with h | ⟨a, n, cap, h, h1, h2, _⟩
    · exact ⟨none, 0, 0, h, by omega⟩
    · exact ⟨some a, n, cap, h, by omega⟩
  have hcell : ∀ i : Nat, i < n → ∃ (g : Addr) (y : Int), a = some g ∧ w.cell? (g.add i) = some (.int .u8 y) ∧ 0 ≤ y ∧ y ≤ 255 := by
    intro i hi
    rcases hv2 with h | ⟨a', n', cap', h, h1, h2, h3⟩
    · injection h with e1 e2 e3; omega
    · injection h with e1 e2 e3
      subst e1 e2
      obtain ⟨y, hy⟩ := h3 i hi
      exact ⟨a', y, rfl, hy⟩
  go_enter Try.func83, Try.ntmps83
  by_cases hlt : k < n
  · obtain ⟨g, y, rfl, hy, y0, y1⟩ := hcell k hlt
    clear hcell hv hv2
    go_wp2
    all_goals (try go_region)
    all_goals (try go_wp2)
    all_goals (try go_region)
    all_goals (try go_wp2)
    all_goals (try go_region)
    all_goals (try go_wp2)
    all_goals go_ret
    all_goals refine ⟨⟨_, rfl⟩, ⟨k + 1, _, by first | (simp [go_sem, c0, c1, c2, f1, f2, bz]; done), by first | (simp [go_sem, c0, c1, c2, f1, f2, bz]; done), by first | (simp [go_sem, c0, c1, c2, f1, f2, bz]; rfl) | (simp [go_sem, c0, c1, c2, f1, f2, bz]; done), by simp [go_sem, f1, f2, bz], by simp [go_sem, f1, f2, bz], by simpa using bz, by omega⟩, fun w1 hb h => by (repeat (first | exact h | refine bdrew ?_ | refine bset ?_ hb _))⟩
  · clear hcell hv hv2
    go_wp2
    all_goals (try go_region)
    all_goals (try go_wp2)
    all_goals (try go_region)
    all_goals (try go_wp2)
    all_goals go_ret
    all_goals refine ⟨⟨_, rfl⟩, ⟨k + 1, _, by first | (simp [go_sem, c0, c1, c2, f1, f2, bz]; done), by first | (simp [go_sem, c0, c1, c2, f1, f2, bz]; done), by first | (simp [go_sem, c0, c1, c2, f1, f2, bz]; rfl) | (simp [go_sem, c0, c1, c2, f1, f2, bz]; done), by simp [go_sem, f1, f2, bz], by simp [go_sem, f1, f2, bz], by simpa using bz, by omega⟩, fun w1 hb h => by (repeat (first | exact h | refine bdrew ?_ | refine bset ?_ hb _))⟩
end Go.Proofs.Ytgpbkjakmbmccaa

/- The laws' draws: a number picked; big; DrawPlanOut. -/
namespace Go.Proofs.Ytgpbkjakmbmccaa
open Go.ChangeShapes Go.WideShapes Go.ChangeAt Go.RowKit Go.Joins
set_option maxRecDepth 100000
set_option linter.unusedVariables false
set_option linter.unusedSimpArgs false

set_option maxHeartbeats 1600000 in
theorem pick_c (b : Nat) (v : Value) (N : Nat) (hN : N ≤ 1000000) (n : Int) (n1 : 1 < n) (n2 : n ≤ 200) (w w0 : World) (hw0 : w0.heap.size ≤ b) (hb0 : Below w0.heap.size w0 w) (hv : BytesAt w0 v) (hC : CurAt b v N w) :
    Calls Try.prog 48 #[.pointer (some ⟨b, 0, none⟩), .int .i64 n] w fun e w' => (∃ x : Int, e = .returned (.int .i64 x)) ∧ CurAt b v (N + 1) w' ∧ CurKeep b w w' := by
  have HN := Lib.hid (next_c b v N hN w w0 hw0 hb0 hv hC)
  clear hC hv hb0
  have n0 : n ≠ 0 := by omega
  go_enter Try.func48, Try.ntmps48
  go_wp2_with fail
  refine HN.out.mono ?_
  rintro e w1 ⟨⟨x, rfl⟩, hC1, hK1⟩
  go_wp2
  all_goals first | (exfalso; omega) | skip
  all_goals go_ret
  all_goals exact ⟨⟨_, rfl⟩, hC1, hK1⟩
theorem bytes_shape {w : World} {v : Value} (h : BytesAt w v) : ∃ (a : Option Addr) (n cap : Nat), v = .slice a n cap ∧ n ≤ 9223372036854775807 := by
  rcases h with h | ⟨a, n, cap, h, h1, h2, _⟩
  · exact ⟨none, 0, 0, h, by omega⟩
  · exact ⟨some a, n, cap, h, by omega⟩
theorem cur_new (w : World) (v : Value) (t : TypeId) : CurAt w.heap.size v 0 (w.alloc (.cells #[v, .int .i64 0, .int .u64 0] t)) :=
  ⟨0, 0, by simp, by simp, by simp, by simp, by simp, by simp, by omega⟩
set_option maxHeartbeats 1600000 in
theorem drawPlan_c (v : Value) (w : World) (hv : BytesAt w v) :
    Calls Try.prog 7 #[v] w fun e w' => (∃ x : Int, e = .returned (.int .i64 x)) ∧ Below w.heap.size w w' := by
  have HP := Lib.hid (fun W h => pick_c w.heap.size v 0 (by omega) 6 (by omega) (by omega) W w (Nat.le_refl _) h hv)
  obtain ⟨a, n, c, rfl, hn⟩ := bytes_shape hv
  go_enter Try.func7, Try.ntmps7
  go_wp2_with fail
  refine (HP.out _ (by (repeat (first | with_reducible exact Below.refl _ _ | with_reducible assumption | with_reducible refine balloc ?_ _ | with_reducible refine bdrew ?_ | with_reducible refine below_drewN ?_ _ | with_reducible refine bset ?_ ?_ _ | with_reducible exact Nat.le_refl _ | with_reducible refine bsize ?_ | (dsimp only; refine Nat.le_trans ?_ (Nat.le_add_right _ _)) | with_reducible refine Nat.le_trans ?_ (Nat.le_add_right _ _) | (with_reducible refine bstep ?_ (by assumption))))) (cur_new _ _ _)).mono ?_
  rintro e w1 ⟨⟨x, rfl⟩, hC1, hK1⟩
  have hb1 := hK1 w (Nat.le_refl _) (by (repeat (first | with_reducible exact Below.refl _ _ | with_reducible assumption | with_reducible refine balloc ?_ _ | with_reducible refine bdrew ?_ | with_reducible refine below_drewN ?_ _ | with_reducible refine bset ?_ ?_ _ | with_reducible exact Nat.le_refl _ | with_reducible refine bsize ?_ | (dsimp only; refine Nat.le_trans ?_ (Nat.le_add_right _ _)) | with_reducible refine Nat.le_trans ?_ (Nat.le_add_right _ _) | (with_reducible refine bstep ?_ (by assumption)))))
  go_wp2
  go_ret
  exact ⟨⟨_, rfl⟩, hb1⟩
set_option maxHeartbeats 1600000 in
theorem big_c (u v : Value) (w : World) (hu : BytesAt w u) (hv : BytesAt w v) :
    Calls Try.prog 6 #[u, v] w fun e w' => (∃ x : Bool, e = .returned (.bool x)) ∧ Below w.heap.size w w' := by
  obtain ⟨a, n, c, rfl, hn⟩ := bytes_shape hu
  obtain ⟨a2, n2, c2, rfl, hn2⟩ := bytes_shape hv
  clear hu hv
  go_enter Try.func6, Try.ntmps6
  go_wp2
  all_goals go_ret
  all_goals exact ⟨by first | exact ⟨_, rfl⟩ | exact Or.inl rfl | exact Or.inr rfl, by (repeat (first | with_reducible exact Below.refl _ _ | with_reducible assumption | with_reducible refine balloc ?_ _ | with_reducible refine bdrew ?_ | with_reducible refine below_drewN ?_ _ | with_reducible refine bset ?_ ?_ _ | with_reducible exact Nat.le_refl _ | with_reducible refine bsize ?_ | (dsimp only; refine Nat.le_trans ?_ (Nat.le_add_right _ _)) | with_reducible refine Nat.le_trans ?_ (Nat.le_add_right _ _) | (with_reducible refine bstep ?_ (by assumption))))⟩
end Go.Proofs.Ytgpbkjakmbmccaa
