/- Several texts in one, in their order. -/
import Derived.Test.YtiafmojmanhdoaaOps
import Derived.Test.YtiafmojmanhdoaaLawBase
import Derived.IntWalk
import Derived.Test.YtiafmojmanhdoaaRow
import Derived.Test.YtiafmojmanhdoaaRowG
import Derived.Test.YtiafmojmanhdoaaRowS
import Derived.Test.YtiafmojmanhdoaaBlk
import Derived.RangeFuncNested
import Derived.RangeFuncBound
import Derived.RangeFuncCalls
import Derived.RangeFuncLeaves
import Derived.Shelf.Abstract
import Derived.Shelf.RegionOpen
import Derived.WalkKit
import Derived.OwnWalkIn
import Derived.TacticsInMore
import Derived.LoopNIn
import Derived.LoopIn
import Derived.Deep.RegionHeld3
import Derived.Laws.AppendOwnNone
import Derived.Lib.AppendZerosOnto
import Derived.Deep.DeepCutAuto
import Derived.Test.YtiafmojmanhdoaaRowsL
import Derived.Test.YtiafmojmanhdoaaApp
import Derived.Test.YtiafmojmanhdoaaOInt
/- The contract of reckon where one of both is no amount, over the translated program. -/
namespace Go.Proofs.Ytiafmojmanhdoaa
open Go.RowKit
set_option linter.unusedSimpArgs false
set_option linter.unusedVariables false

set_option maxHeartbeats 400000 in
theorem reckon_no (n d p q : Int) (f : Value) (hn : n ≤ 9223372036854775807) (hd : d ≤ 9223372036854775807) (hp : p ≤ 9223372036854775807) (hq : q ≤ 9223372036854775807) (hk : okk n d p q = false) (w : World) :
    Calls Try.prog 136 #[.agg #[.int .i64 n, .int .i64 d], .agg #[.int .i64 p, .int .i64 q], f] w fun e w' => e = .returned (.tuple #[.agg #[.int .i64 0, .int .i64 0], .bool false]) ∧ Below w.heap.size w w' := by
  cases h1 : amB n d
  · clear hk
    go_enter Try.func136, Try.ntmps136
    (go_wp2_with fail; refine (isam_impl _ _ (by omega) (by omega) _).mono ?_; rintro e w1 ⟨rfl, hb1⟩; rw [h1]; have ha1 := hb1; obtain ⟨kc1, kf1, kz1, ky1, kx1, kv1, ku1⟩ := bcell hb1)
    go_wp2
    refine bodyPost_ret (v := .tuple #[.agg #[.int .i64 0, .int .i64 0], .bool false]) (by simp only [results, Try.results136]; go_simp) rfl ⟨rfl, ?_⟩
    (repeat (first | with_reducible exact Below.refl _ _ | with_reducible assumption | with_reducible refine balloc ?_ _ | with_reducible refine bdrew ?_ | with_reducible refine below_drewN ?_ _ | with_reducible refine bset ?_ ?_ _ | with_reducible exact Nat.le_refl _ | with_reducible refine bsize ?_ | (dsimp only; refine Nat.le_trans ?_ (Nat.le_add_right _ _)) | with_reducible refine Nat.le_trans ?_ (Nat.le_add_right _ _) | (with_reducible refine bstep ?_ (by assumption))))
  · have h2 : amB p q = false := by simpa [okk, h1] using hk
    clear hk
    go_enter Try.func136, Try.ntmps136
    (go_wp2_with fail; refine (isam_impl _ _ (by omega) (by omega) _).mono ?_; rintro e w1 ⟨rfl, hb1⟩; rw [h1]; have ha1 := hb1; obtain ⟨kc1, kf1, kz1, ky1, kx1, kv1, ku1⟩ := bcell hb1)
    (go_wp2_with fail; refine (isam_impl _ _ (by omega) (by omega) _).mono ?_; rintro e w2 ⟨rfl, hb2⟩; rw [h2]; have ha2 := bjoin ha1 hb2 (by (repeat (first | with_reducible exact Below.refl _ _ | with_reducible assumption | with_reducible refine balloc ?_ _ | with_reducible refine bdrew ?_ | with_reducible refine below_drewN ?_ _ | with_reducible refine bset ?_ ?_ _ | with_reducible exact Nat.le_refl _ | with_reducible refine bsize ?_ | (dsimp only; refine Nat.le_trans ?_ (Nat.le_add_right _ _)) | with_reducible refine Nat.le_trans ?_ (Nat.le_add_right _ _) | (with_reducible refine bstep ?_ (by assumption))))); obtain ⟨kc2, kf2, kz2, ky2, kx2, kv2, ku2⟩ := bcell hb2; obtain ⟨jc2, jf2, jz2, jy2, jx2, jv2, ju2⟩ := bcell ha2)
    go_wp2
    refine bodyPost_ret (v := .tuple #[.agg #[.int .i64 0, .int .i64 0], .bool false]) (by simp only [results, Try.results136]; go_simp) rfl ⟨rfl, ?_⟩
    (repeat (first | with_reducible exact Below.refl _ _ | with_reducible assumption | with_reducible refine balloc ?_ _ | with_reducible refine bdrew ?_ | with_reducible refine below_drewN ?_ _ | with_reducible refine bset ?_ ?_ _ | with_reducible exact Nat.le_refl _ | with_reducible refine bsize ?_ | (dsimp only; refine Nat.le_trans ?_ (Nat.le_add_right _ _)) | with_reducible refine Nat.le_trans ?_ (Nat.le_add_right _ _) | (with_reducible refine bstep ?_ (by assumption))))
end Go.Proofs.Ytiafmojmanhdoaa

/- The contracts of reckon at plus, and of AddAmounts, of the program, over the translated program. -/
namespace Go.Proofs.Ytiafmojmanhdoaa
open Go.RowKit
set_option linter.unusedSimpArgs false
set_option linter.unusedVariables false

end Go.Proofs.Ytiafmojmanhdoaa

/- Contracts of the model: two amounts, comparing, over the translated program. -/
namespace Go.Proofs.Ytiafmojmanhdoaa
open Go.RowKit
set_option linter.unusedSimpArgs false
set_option linter.unusedVariables false

def sgI (x : Int) : Int := if 0 < x then 1 else if x < 0 then -1 else 0
end Go.Proofs.Ytiafmojmanhdoaa

/- The contracts of amAdd and AddAmounts, of the model, over the translated program. -/
namespace Go.Proofs.Ytiafmojmanhdoaa
open Go.RowKit
set_option linter.unusedSimpArgs false
set_option linter.unusedVariables false

end Go.Proofs.Ytiafmojmanhdoaa

/- The contracts of reckon at times, and of TimesAmount, of the program, over the translated program. -/
namespace Go.Proofs.Ytiafmojmanhdoaa
open Go.RowKit
set_option linter.unusedSimpArgs false
set_option linter.unusedVariables false

end Go.Proofs.Ytiafmojmanhdoaa

/- The contracts of amTimes and TimesAmount, of the model, over the translated program. -/
namespace Go.Proofs.Ytiafmojmanhdoaa
open Go.RowKit
set_option linter.unusedSimpArgs false
set_option linter.unusedVariables false

end Go.Proofs.Ytiafmojmanhdoaa

/- Contracts of SteppedSum on both sides. -/
namespace Go.Proofs.Ytiafmojmanhdoaa
open Go.RowKit
set_option linter.unusedVariables false
set_option linter.unusedSimpArgs false

theorem am_whole (k : Int) (h0 : 0 ≤ k) (h1 : k ≤ 1000000000) : amB k 1 = true := by
  rw [amB_iff]; refine ⟨h0, h1, by omega, by omega, ?_⟩
  unfold gi; rw [Int.gcd_one_right]; rfl
theorem whole_is_impl (k : Int) (w : World) :
    Calls Try.prog 127 #[.int .i64 k] w fun e w' => e = .returned (.agg #[.int .i64 k, .int .i64 1]) ∧ w.alloc (.cells #[.int .i64 k, .int .i64 1] 101) = w' := by
  go_enter Try.func127, Try.ntmps127
  go_wp2
  exact bodyPost_ret (v := .agg #[.int .i64 k, .int .i64 1]) (by simp [results, Try.results127, go_sem]) rfl ⟨rfl, rfl⟩
/-- n (n - 1) / 2 -/
abbrev tri (k : Int) : Int := k * (k - 1) / 2
theorem tri_bd (k : Int) (h0 : 0 ≤ k) (h1 : k ≤ 1000) : 0 ≤ tri k ∧ tri k ≤ 499500 ∧ 0 ≤ k * (k - 1) ∧ k * (k - 1) ≤ 999000 := by
  have h : 0 ≤ k * (k - 1) ∧ k * (k - 1) ≤ 999000 := by
    by_cases hk : k = 0
    · subst hk; omega
    · exact ⟨Int.mul_nonneg h0 (by omega), Int.le_trans (Int.mul_le_mul h1 (show k - 1 ≤ 999 by omega) (by omega) (by omega)) (by omega)⟩
  unfold tri; omega

/-- Can the sum be made? -/
def stK (n d p q k : Int) : Bool := inB k 0 1000 && (amB n d && lowB (n * k) d) && (amB p q && lowB (p * tri k) q)
def stX (n d k : Int) : Int := lowN (n * k) d
def stY (n d k : Int) : Int := lowD (n * k) d
def stN (n d p q k : Int) : Int := stX n d k * stY p q (tri k) + stX p q (tri k) * stY n d k
def stD (n d p q k : Int) : Int := stY n d k * stY p q (tri k)

/-- Two boxed parameters and the variable of the result. -/
def boxed3 (w : World) (n d p q : Int) : World := ((w.alloc (.cells #[.int .i64 n, .int .i64 d] 101)).alloc (.cells #[.int .i64 p, .int .i64 q] 101)).alloc (.cells #[.int .i64 0, .int .i64 0] 101)
structure Boxed3 (w V : World) (n d p q : Int) : Prop where
  c1 : V.cell? ⟨w.heap.size, 0, none⟩ = some (.int .i64 n)
  c2 : V.cell? ⟨w.heap.size, 1, none⟩ = some (.int .i64 d)
  c3 : V.cell? ⟨w.heap.size + 1, 0, none⟩ = some (.int .i64 p)
  c4 : V.cell? ⟨w.heap.size + 1, 1, none⟩ = some (.int .i64 q)
  r1 : V.cell? ⟨w.heap.size + 1 + 1, 0, none⟩ = some (.int .i64 0)
  r2 : V.cell? ⟨w.heap.size + 1 + 1, 1, none⟩ = some (.int .i64 0)
  r3 : V.frozen? ⟨w.heap.size + 1 + 1, 0, none⟩ = false
  r4 : V.frozen? ⟨w.heap.size + 1 + 1, 1, none⟩ = false
  hs : w.heap.size + 1 + 1 < V.heap.size
  below : Below w.heap.size w V
theorem boxed3_is (w : World) (n d p q : Int) : Boxed3 w (boxed3 w n d p q) n d p q := by
  unfold boxed3
  refine ⟨by simp [go_sem], by simp [go_sem], by simp [go_sem], by simp [go_sem], by simp [go_sem], by simp [go_sem], by simp [go_sem], by simp [go_sem], by simp, ?_⟩
  (repeat (first | with_reducible exact Below.refl _ _ | with_reducible assumption | with_reducible refine balloc ?_ _ | with_reducible refine bdrew ?_ | with_reducible refine below_drewN ?_ _ | with_reducible refine bset ?_ ?_ _ | with_reducible exact Nat.le_refl _ | with_reducible refine bsize ?_ | (dsimp only; refine Nat.le_trans ?_ (Nat.le_add_right _ _)) | with_reducible refine Nat.le_trans ?_ (Nat.le_add_right _ _) | (with_reducible refine bstep ?_ (by assumption))))
theorem boxed3_later {w V V' : World} {n d p q : Int} (h : Boxed3 w V n d p q) (hb : Below V.heap.size V V') : Boxed3 w V' n d p q :=
  ⟨keepa hb (by have := h.hs; omega) h.c1, keepa hb (by have := h.hs; omega) h.c2, keepa hb (by have := h.hs; omega) h.c3, keepa hb (by have := h.hs; omega) h.c4, keepa hb h.hs h.r1, keepa hb h.hs h.r2, keepf hb h.hs h.r3, keepf hb h.hs h.r4, Nat.lt_of_lt_of_le h.hs hb.size, bstep h.below hb⟩

theorem stK_1 (n d p q k : Int) (h : twoB (amB n d) (n * k) d = false) : stK n d p q k = false := by
  unfold twoB at h; simp [stK, h]
theorem stK_2 (n d p q k : Int) (h : twoB (amB p q) (p * tri k) q = false) : stK n d p q k = false := by
  unfold twoB at h; simp [stK, h]
theorem stK_3 (n d p q k : Int) (h1 : twoB (amB n d) (n * k) d = true) (h2 : twoB (amB p q) (p * tri k) q = true) (h3 : inB k 0 1000 = true) : stK n d p q k = true ∧
    twoN (amB n d) (n * k) d = stX n d k ∧ twoD (amB n d) (n * k) d = stY n d k ∧ twoN (amB p q) (p * tri k) q = stX p q (tri k) ∧ twoD (amB p q) (p * tri k) q = stY p q (tri k) ∧ amB (stX n d k) (stY n d k) = true ∧ amB (stX p q (tri k)) (stY p q (tri k)) = true := by
  unfold twoB at h1 h2
  have a := (Bool.and_eq_true _ _ ▸ h1 : _ ∧ _)
  have b := (Bool.and_eq_true _ _ ▸ h2 : _ ∧ _)
  refine ⟨by simp [stK, h3, h1, h2], by simp [twoN, stX, a.1], by simp [twoD, stY, a.1], by simp [twoN, stX, b.1], by simp [twoD, stY, b.1], amB_low _ _ a.2, amB_low _ _ b.2⟩

end Go.Proofs.Ytiafmojmanhdoaa

/- The contract of addUp, over a slice of amounts wherever it lies. -/
namespace Go.Proofs.Ytiafmojmanhdoaa
open Go.RowKit
set_option maxRecDepth 100000
set_option linter.unusedVariables false
set_option linter.unusedSimpArgs false

/-- All of a list together, from what there is already, one after the other; none if one of the sums, or a summand, is no amount. -/
def sumL : List (Int × Int) → Int → Int → Option (Int × Int)
  | [], x, y => some (x, y)
  | a :: l, x, y => if (amB a.1 a.2 && lowB (x * a.2 + a.1 * y) (y * a.2)) = true then sumL l (lowN (x * a.2 + a.1 * y) (y * a.2)) (lowD (x * a.2 + a.1 * y) (y * a.2)) else none
def oB (o : Option (Int × Int)) : Bool := o.isSome
def oN (o : Option (Int × Int)) : Int := match o with | some p => p.1 | none => 0
def oD (o : Option (Int × Int)) : Int := match o with | some p => p.2 | none => 0

/-- The cells of an amount. -/
def fAmt (p : Int × Int) : List Int := [p.1, p.2]
theorem fAmt_len (p : Int × Int) : (fAmt p).length = 2 := rfl
theorem infoAmt : (Try.prog.info? 101).map (fun i => (i.zero, i.size, i.bytes)) = some (some (.agg #[.int .i64 0, .int .i64 0]), 2, 16) := by kernel_rfl

end Go.Proofs.Ytiafmojmanhdoaa

/- slices.Backward over amounts: what comes, and when. -/
namespace Go.Proofs.Ytiafmojmanhdoaa
open Go.Shelf Go.ChangeShapes Go.WideShapes Go.ChangeAt Go.RowKit Go.Joins
set_option maxRecDepth 100000
set_option linter.unusedVariables false
set_option linter.unusedSimpArgs false

attribute [local go_sem] Oper.semAt_some

/-- What comes: the last first, each with its index. -/
def bwU (l : List (Int × Int)) (k : Nat) : List (Nat × (Int × Int)) := (List.range k).map fun j => (l.length - 1 - j, l.getD (l.length - 1 - j) (0, 0))
theorem bwU_succ (l : List (Int × Int)) (k : Nat) : bwU l (k + 1) = bwU l k ++ [(l.length - 1 - k, l.getD (l.length - 1 - k) (0, 0))] := by simp [bwU, List.range_succ]
theorem bwU_len (l : List (Int × Int)) (k : Nat) : (bwU l k).length = k := by simp [bwU]
theorem bwU_mem {l : List (Int × Int)} {k : Nat} (hk : k ≤ l.length) {x : Nat × (Int × Int)} : x ∈ bwU l k ↔ (l.length - k ≤ x.1 ∧ x.1 < l.length ∧ x.2 = l.getD x.1 (0, 0)) := by
  simp only [bwU, List.mem_map, List.mem_range]
  constructor
  · rintro ⟨j, hj, rfl⟩
    exact ⟨by simp; omega, by simp; omega, rfl⟩
  · rintro ⟨h1, h2, h3⟩
    refine ⟨l.length - 1 - x.1, by omega, ?_⟩
    have e : l.length - 1 - (l.length - 1 - x.1) = x.1 := by omega
    rw [e, ← h3]
/-- The index, the amount: a small index, an amount. -/
def sxI (x : Nat × (Int × Int)) : Nat := min x.1 1000000
def sxA (x : Nat × (Int × Int)) : Int × Int := if amB x.2.1 x.2.2 = true then x.2 else (0, 1)
theorem sxI_le (x : Nat × (Int × Int)) : sxI x ≤ 1000000 := Nat.min_le_right _ _
theorem sxA_am (x : Nat × (Int × Int)) : amB (sxA x).1 (sxA x).2 = true := by
  unfold sxA
  split
  · assumption
  · decide
theorem sxI_is {i : Nat} {p : Int × Int} (h : i ≤ 1000000) : sxI (i, p) = i := Nat.min_eq_left h
theorem sxA_is {i : Nat} {p : Int × Int} (h : amB p.1 p.2 = true) : sxA (i, p) = p := by simp [sxA, h]
def encB (x : Nat × (Int × Int)) : Array Value := #[.int .i64 (sxI x : Int), .agg #[.int .i64 (sxA x).1, .int .i64 (sxA x).2]]
set_option maxHeartbeats 4000000 in
theorem bwd1_in (F : Fence) (n : Nat) (hf : F.fn 138) (hro : F.round = none) (hn : 1 ≤ n) (lp Bs n₀ : Nat) (a : Addr) (cap : Nat) (l : List (Int × Int)) (w0 : World) (hL : LiesG 2 fAmt w0 a cap l) (hln : l.length ≤ 1000000) (hP : ∀ p ∈ l, amB p.1 p.2 = true) (hw0 : w0.heap.size ≤ n₀) (J Jx : List (Nat × (Int × Int)) → World → Prop)
    (hY : ∀ pre x W, J pre W → pre.length < l.length → YieldAt F (n - 1) Try.prog lp (encB x) W fun e W' =>
      (e = .returned (.bool true) ∧ J (pre ++ [x]) W' ∧ Below n₀ W W') ∨ (e = .returned (.bool false) ∧ Jx (pre ++ [x]) W'))
    (W : World) (hB : Below w0.heap.size w0 W) (hBs : W.cell? ⟨Bs, 0, none⟩ = some (.slice (some a) l.length cap)) (hBl : Bs < n₀) (h0 : J [] W) :
    CallsIn F n Try.prog 138 #[.func (.yield lp) #[] #[], .pointer (some ⟨Bs, 0, none⟩)] W fun e W' => (∃ v, e = .returned v) ∧
      ((∃ ys, ys = bwU l l.length ∧ J ys W') ∨ (∃ pre, (∃ k, k ≤ l.length ∧ pre = bwU l k) ∧ Jx pre W')) := by
  have hlc := hL.hlc
  have hcap := hL.hcap
  refine callsIn_of_wp Try.func138 rfl hf ?_ hro
  simp only [Try.ntmps138, List.size_toArray, List.length_cons, List.length_nil, Nat.reduceAdd, Nat.reduceSub, Array.replicate_succ, Array.replicate_zero, List.push_toArray, List.append_toArray, List.nil_append, List.cons_append]
  gi_wp2
  gi_loopw [3] (fun i wr => ∃ r : Nat, r ≤ l.length ∧ i = .int .i64 ((r : Int) - 1) ∧ J (bwU l (l.length - r)) wr ∧ Below n₀ W wr)
    (fun i _ => (intOf i + 1).toNat)
  case atStart => exact ⟨l.length, Nat.le_refl _, rfl, by simpa [bwU] using h0, Below.refl _ _⟩
  case round =>
    obtain ⟨r, hr, rfl, hJs, hnx⟩ := hrel
    have hbs := (hnx.cell (p := ⟨Bs, 0, none⟩) hBl).trans hBs
    cases r with
    | zero =>
      have e0 : (((0 : Nat) : Int) - 1) = -1 := by omega
      rw [e0]
      rw [Nat.sub_zero] at hJs
      gi_wp2
      go_end0
      exact ⟨⟨_, rfl⟩, .inl ⟨_, rfl, hJs⟩⟩
    | succ r =>
      have e0 : (((r + 1 : Nat) : Int) - 1) = (r : Int) := by omega
      rw [e0]
      obtain ⟨p, hp⟩ : ∃ p, l[r]? = some p := ⟨_, List.getElem?_eq_getElem (by omega)⟩
      have hL2 : LiesG 2 fAmt wr a cap l := liesG_below hL (hB.trans (hnx.mono hw0))
      have hc := hL2.hcell r p hp
      have e0 := hc 0 p.1 rfl
      rw [Nat.add_zero] at e0
      have e1 : wr.cell? ⟨(a.add (r * 2)).block, (a.add (r * 2)).off + 1, none⟩ = some (.int .i64 p.2) := by
        have h := hc 1 p.2 rfl
        rw [← Deep.add_add] at h
        exact h
      clear hc
      have hpv : l.getD (l.length - 1 - (l.length - (r + 1))) (0, 0) = p := by
        rw [show l.length - 1 - (l.length - (r + 1)) = r by omega, List.getD_eq_getElem?_getD, hp]
        rfl
      obtain ⟨fn, tmps, assign, body, hy, hR⟩ := hY _ (r, p) wr hJs (by rw [bwU_len]; omega)
      have hnext : bwU l (l.length - r) = bwU l (l.length - (r + 1)) ++ [(r, p)] := by
        rw [show l.length - r = (l.length - (r + 1)) + 1 by omega, bwU_succ, hpv]
        rw [show l.length - 1 - (l.length - (r + 1)) = r by omega]
      unfold encB at hy
      rw [sxI_is (by omega), sxA_is (hP p (List.mem_of_getElem? hp))] at hy
      have hrl : r < l.length := by omega
      clear hL2 hpv hp
      gi_wp2
      refine hR.mono ?_
      rintro e W3 (⟨rfl, hJ3, hk3⟩ | ⟨rfl, hJx3⟩)
      · gi_wp2
        go_roundw
        case rel => exact ⟨r, by omega, by go_num, by rw [hnext]; exact hJ3, hnx.trans hk3⟩
        case measure => first | (simp [intOf]; done) | (simp [intOf]; omega)
      · gi_wp2
        refine bodyPost_ret (results_none rfl _ _ _) rfl ?_
        exact ⟨⟨_, rfl⟩, .inr ⟨_, ⟨l.length - r, by omega, hnext.symm⟩, hJx3⟩⟩
set_option maxHeartbeats 1000000 in
theorem bwd1_nil_in (F : Fence) (n : Nat) (hf : F.fn 138) (hro : F.round = none) (lp Bs : Nat) (J : List (Nat × (Int × Int)) → World → Prop) (W : World) (hBs : W.cell? ⟨Bs, 0, none⟩ = some (.slice none 0 0)) (h0 : J [] W) :
    CallsIn F n Try.prog 138 #[.func (.yield lp) #[] #[], .pointer (some ⟨Bs, 0, none⟩)] W fun e W' => (∃ v, e = .returned v) ∧ J [] W' := by
  refine callsIn_of_wp Try.func138 rfl hf ?_ hro
  simp only [Try.ntmps138, List.size_toArray, List.length_cons, List.length_nil, Nat.reduceAdd, Nat.reduceSub, Array.replicate_succ, Array.replicate_zero, List.push_toArray, List.append_toArray, List.nil_append, List.cons_append]
  gi_wp2
  gi_loopw [3] (fun i wr => i = .int .i64 (-1) ∧ J [] wr) (fun _ _ => 0)
  case atStart => exact ⟨rfl, h0⟩
  case round =>
    obtain ⟨rfl, hJs⟩ := hrel
    gi_wp2
    go_end0
    exact ⟨⟨_, rfl⟩, hJs⟩
set_option maxHeartbeats 1000000 in
theorem bwd_in (F : Fence) (n : Nat) (hf : F.fn 131) (hro : F.round = none) (v : Value) (w : World) (hv : ∃ a len cap, v = .slice a len cap) :
    CallsIn F n Try.prog 131 #[v] w fun e w' => e = .returned (.func (.func 138) #[] #[.pointer (some ⟨w.heap.size, 0, none⟩)]) ∧ w' = w.alloc (.cells #[v] 102) := by
  obtain ⟨a, len, cap, rfl⟩ := hv
  refine callsIn_of_wp Try.func131 rfl hf ?_ hro
  simp only [Try.ntmps131, List.size_toArray, List.length_cons, List.length_nil, Nat.reduceAdd, Nat.reduceSub, Array.replicate_succ, Array.replicate_zero, List.push_toArray, List.append_toArray, List.nil_append, List.cons_append]
  gi_wp2
  go_ret
  exact ⟨rfl, rfl⟩
/-- slices.Backward hands back what comes to every element, the last first; or to some of the last. -/
theorem bwd_stops (F : Fence) (n : Nat) (hf : F.fn 138) (hro : F.round = none) (hn : 1 ≤ n) (Bs n₀ : Nat) (v : Value) (l : List (Int × Int)) (w0 : World) (hI : RowG 2 fAmt w0 v l) (hln : l.length ≤ 1000000) (hP : ∀ p ∈ l, amB p.1 p.2 = true) (w : World) (hB : Below w0.heap.size w0 w) (hw0 : w0.heap.size ≤ n₀) (hn₀ : n₀ ≤ w.heap.size) (hBl : Bs < n₀) (hc : w.cell? ⟨Bs, 0, none⟩ = some v) :
    SeqStopsK F n Try.prog 138 #[.pointer (some ⟨Bs, 0, none⟩)] encB (Below n₀) (fun ys => ys = bwU l l.length) (fun pre => ∃ k, k ≤ l.length ∧ pre = bwU l k) l.length w := fun lp J Jx W hW _ _ hY h0 => by
  have hc' := (hW.cell (p := ⟨Bs, 0, none⟩) (by show Bs < w.heap.size; omega)).trans hc
  rcases hI with ⟨rfl, rfl⟩ | ⟨a, cap, rfl, hL⟩
  · exact (bwd1_nil_in F n hf hro lp Bs J W hc' h0).mono fun e W' ⟨he, hj⟩ => ⟨he, .inl ⟨_, rfl, hj⟩⟩
  · exact bwd1_in F n hf hro hn lp Bs n₀ a cap l w0 hL hln hP hw0 J Jx hY W (hB.trans (hW.mono (by omega))) hc' hBl h0
/-- A block told whole speaks of cells alone. -/
theorem blk_own {β : Type} (b : Nat) (t : TypeId) (f : β → Array Value) : Own (fun s W => Blk b (f s) t W) := fun s X Y row hs hg hrow =>
  hs.grown hg (fun e' => by obtain ⟨o, ho, hc⟩ := hrow b e'; rw [show X.heap[b]? = _ from hs] at ho; cases ho; cases hc)
end Go.Proofs.Ytiafmojmanhdoaa

/- A list that lies somewhere, read cell by cell. -/
namespace Go.Proofs.Ytiafmojmanhdoaa
open Go.ChangeShapes Go.WideShapes Go.ChangeAt Go.RowKit Go.Joins
set_option maxRecDepth 100000
set_option linter.unusedVariables false
set_option linter.unusedSimpArgs false

theorem liesG_cells {α : Type} {m : Nat} {f : α → List Int} (hm : ∀ x, (f x).length = m) (h0 : 0 < m) {w : World} {a : Addr} {cap : Nat} {l : List α} (h : LiesG m f w a cap l) :
    ∀ j u, (cellsG f l)[j]? = some u → w.cell? (a.add j) = some u := by
  intro k u hu
  have hk : k < l.length * m := by have := (List.getElem?_eq_some_iff.1 hu).1; rw [cellsG_len hm] at this; exact this
  have hi : k / m < l.length := (Nat.div_lt_iff_lt_mul h0).2 hk
  have hx : l[k / m]? = some l[k / m] := List.getElem?_eq_getElem hi
  have hj : k % m < (f l[k / m]).length := by rw [hm]; exact Nat.mod_lt _ h0
  have hy := List.getElem?_eq_getElem hj
  have e : k / m * m + k % m = k := by have := Nat.div_add_mod k m; rw [Nat.mul_comm] at this; exact this
  have h2 := cellsG_get hm l _ _ hx _ _ hy
  have h3 := h.hcell _ _ hx _ _ hy
  rw [e] at h2 h3
  rw [h2] at hu
  injection hu with hu
  rw [← hu]; exact h3
theorem cellsG_one {α : Type} (f : α → List Int) (l : List α) : ∀ u ∈ cellsG f l, u.oneCell' = true := by
  intro u hu
  simp only [cellsG, List.mem_flatMap, List.mem_map] at hu
  obtain ⟨x, _, y, _, rfl⟩ := hu
  rfl
theorem cellsG_append {α : Type} (f : α → List Int) (l k : List α) : cellsG f (l ++ k) = cellsG f l ++ cellsG f k := by simp [cellsG]
/-- What the call answers: a list that it owns. -/
def EndL {α : Type} (ty m : Nat) (f : α → List Int) (l : List α) (w : World) (e : Ending) (w' : World) : Prop :=
  ∃ v, e = .returned v ∧ w'.ownsRow w.heap.size ty m v l.length (cellsG f l) ∧ Below w.heap.size w w'
/-- A part of a list that lies somewhere. -/
theorem liesG_drop {α : Type} {m : Nat} {f : α → List Int} {w : World} {a : Addr} {cap : Nat} {l : List α} (h : LiesG m f w a cap l) (k : Nat) (hk : k ≤ l.length) : LiesG m f w (a.add (k * m)) (cap - k) (l.drop k) := by
  refine ⟨by rw [List.length_drop]; have := h.hlc; omega, by have := h.hcap; omega, fun i p hp j y hy => ?_, fun p hp => h.hbd p (List.mem_of_mem_drop hp)⟩
  rw [List.getElem?_drop] at hp
  have h3 := h.hcell _ p hp j y hy
  rw [Deep.add_add]
  have e : k * m + (i * m + j) = (k + i) * m + j := by rw [Nat.add_mul]; omega
  rw [e]; exact h3
theorem liesG_take {α : Type} {m : Nat} {f : α → List Int} {w : World} {a : Addr} {cap : Nat} {l : List α} (h : LiesG m f w a cap l) (k : Nat) (hk : k ≤ l.length) : LiesG m f w a cap (l.take k) := by
  refine ⟨by rw [List.length_take]; have := h.hlc; omega, h.hcap, fun i p hp j y hy => ?_, fun p hp => h.hbd p (List.mem_of_mem_take hp)⟩
  rw [List.getElem?_take] at hp
  split at hp
  · exact h.hcell _ p hp j y hy
  · cases hp
end Go.Proofs.Ytiafmojmanhdoaa

/- The laws' helpers on lists of amts: the copy is a row of its own; two rows of one list are equal. -/
namespace Go.Proofs.Ytiafmojmanhdoaa
open Go.ChangeShapes Go.WideShapes Go.ChangeAt Go.RowKit Go.Joins
set_option maxRecDepth 100000
set_option linter.unusedVariables false
set_option linter.unusedSimpArgs false

theorem infoAmount : (Try.prog.info? 101).map (fun i => (i.zero, i.size, i.bytes)) = some (some (.agg #[.int .i64 0, .int .i64 0]), 2, 16) := by kernel_rfl

end Go.Proofs.Ytiafmojmanhdoaa

/- Two lists of amounts put together by the library. -/
namespace Go.Proofs.Ytiafmojmanhdoaa
open Go.ChangeShapes Go.WideShapes Go.ChangeAt Go.RowKit Go.Joins
set_option maxRecDepth 100000
set_option linter.unusedVariables false
set_option linter.unusedSimpArgs false

set_option maxHeartbeats 1600000 in
theorem catA_grow (n : Nat) (hn : n ≤ 2097152) (w : World) :
    Calls Try.prog 135 #[.slice none 0 0, .int .i64 n] w (EndL 101 2 fAmt ([] : List (Int × Int)) w) := by
  obtain ⟨i0, hi, hz0, hz1, hz2⟩ := info_parts infoAmt
  by_cases h0 : n = 0
  · subst h0
    go_enter Try.func135, Try.ntmps135
    go_wp2
    go_ret
    exact ⟨_, rfl, World.ownsRow_nil _ _ _ _, Below.refl _ _⟩
  · have hcap0 : n ≤ grownCap w n 0 101 := grownCap_ge w _ _ _
    have hcapM : grownCap w n 0 101 ≤ maxLen := grownCap_le_maxLen w n 0 101 (by unfold maxLen; omega)
    have hrz : ∀ ty, (Builtin.append_ #[102, 3] ty #[.slice none 0 0, .int .i64 (n : Int)]).run Try.prog w =
        .ok (.slice (some ⟨w.heap.size, 0, none⟩) n (grownCap w n 0 101)) (w.drew.alloc (.cells (Builtin.zeroCells (.agg #[.int .i64 0, .int .i64 0] : Value).cells n ++ Builtin.zeroCells (.agg #[.int .i64 0, .int .i64 0] : Value).cells (grownCap w n 0 101 - n)) 101)) := fun ty => by
      have h := Lib.run_append_grow_zeros (P := Try.prog) w 102 3 ty 101 i0 _ .i64 .i64 Try.underlying102 Try.underlying3 hi hz0 none 0 0 [] (run_firstCells_none _ _ _ _ _) n (by omega) (by rw [hz1]; omega) (by omega) (by omega)
        (by rw [hz2]; omega) (by rw [hz2]; rw [show 0 + n = n by omega]; exact growslice_fits (by omega) (by omega))
      rw [show 0 + n = n by omega] at h
      simpa using h
    obtain ⟨G, hG⟩ : ∃ G, G = grownCap w n 0 101 := ⟨_, rfl⟩
    rw [← hG] at hrz hcap0 hcapM
    unfold maxLen at hcapM
    clear hG
    go_enter Try.func135, Try.ntmps135
    go_wp2_with (at_builtin; refine Lib.wpList_append_run _ rfl _ _ _ _ rfl _ _ rfl rfl _ _ (hrz _) ?_)
    all_goals
      go_ret
      refine ⟨_, rfl, ?_, by (repeat (first | with_reducible exact Below.refl _ _ | with_reducible assumption | with_reducible refine balloc ?_ _ | with_reducible refine bdrew ?_ | with_reducible refine below_drewN ?_ _ | with_reducible refine bset ?_ ?_ _ | with_reducible exact Nat.le_refl _ | with_reducible refine bsize ?_ | (dsimp only; refine Nat.le_trans ?_ (Nat.le_add_right _ _)) | with_reducible refine Nat.le_trans ?_ (Nat.le_add_right _ _) | (with_reducible refine bstep ?_ (by assumption))))⟩
      exact World.ownsRow_made w.drew _ G (by simp) (by unfold maxLen; omega) (by simp [size_zeroCells, Value.cells]; omega)
set_option maxHeartbeats 3200000 in
theorem catA_two (g : Nat) (v1 v2 : Value) (l1 l2 : List (Int × Int)) (w : World) (hc1 : w.cell? ⟨g, 0, none⟩ = some v1) (hc2 : w.cell? ⟨g, 1, none⟩ = some v2) (h1 : RowG 2 fAmt w v1 l1) (h2 : RowG 2 fAmt w v2 l2) (hn : l1.length + l2.length ≤ 1048576) :
    Calls Try.prog 128 #[.slice (some ⟨g, 0, none⟩) 2 2] w (EndL 101 2 fAmt (l1 ++ l2) w) := by
  obtain ⟨i0, hi, hz0, hz1, hz2⟩ := info_parts infoAmt
  have hg : g < w.heap.size := cell_lt hc1
  obtain ⟨a1, k1, hv1, d1, e1⟩ := row_shape h1
  obtain ⟨a2, k2, hv2, d2, e2⟩ := row_shape h2
  have HG := Lib.hid (fun W => catA_grow (l1.length + l2.length) (by omega) W)
  have hc1' := hc1
  have hc2' := hc2
  rw [hv1] at hc1'
  rw [hv2] at hc2'
  go_enter Try.func128, Try.ntmps128
  go_wp2
  go_loopw [3, 5, 11] (fun sz u i wr => ∃ j : Nat, j ≤ 2 ∧ i = .int .i64 j ∧ sz = .int .i64 (((if 0 < j then l1.length else 0) + (if 1 < j then l2.length else 0) : Nat) : Int) ∧ wr = w) (fun _ _ i _ => 2 - (intOf i).toNat)
  case atStart => exact ⟨0, by omega, rfl, by simp, rfl⟩
  case round =>
    obtain ⟨j, hj, rfl, rfl, hw⟩ := hrel
    replace hw := hw.symm
    subst hw
    rcases (show j = 0 ∨ j = 1 ∨ j = 2 by omega) with rfl | rfl | rfl
    · go_wp2
      go_roundw
      case rel => refine ⟨1, by omega, by go_num, by simp, ?_⟩; first | rfl | trivial
      case measure => simp [intOf]
    · go_wp2
      go_roundw
      case rel => refine ⟨2, by omega, by go_num, by simp, ?_⟩; first | rfl | trivial
      case measure => simp [intOf]
    · go_wp2_with fail
      refine (HG.out _).mono ?_
      rintro e w1 ⟨v, rfl, hown, hb1⟩
      clear HG
      obtain ⟨aq, cq, rfl⟩ := owns_shape hown
      have c0 : w1.cell? ⟨g, 0, none⟩ = some v1 := keepa hb1 hg hc1
      have c1 : w1.cell? ⟨g, 1, none⟩ = some v2 := keepa hb1 hg hc2
      clear hc1' hc2'
      go_wp2
      go_loopw [6, 8, 27] (fun v u i wr => ∃ j : Nat, j ≤ 2 ∧ i = .int .i64 j ∧ wr.ownsRow w.heap.size 101 2 v (if 1 < j then (l1 ++ l2) else if 0 < j then l1 else []).length (cellsG fAmt (if 1 < j then (l1 ++ l2) else if 0 < j then l1 else [])) ∧ Below w.heap.size w wr) (fun _ _ i _ => 2 - (intOf i).toNat)
      case atStart => exact ⟨0, by omega, rfl, by simpa using hown, hb1⟩
      case round =>
        obtain ⟨j, hj, rfl, hown, hbel⟩ := hrel
        have hg1 : g < w1.heap.size := cell_lt c0
        have c0 : wr.cell? ⟨g, 0, none⟩ = some v1 := keepa (W0 := w) hbel hg hc1
        have c1 : wr.cell? ⟨g, 1, none⟩ = some v2 := keepa (W0 := w) hbel hg hc2
        rcases (show j = 0 ∨ j = 1 ∨ j = 2 by omega) with rfl | rfl | rfl
        · simp only [Nat.lt_irrefl, if_true, if_false, Nat.zero_lt_one, Nat.one_lt_two, Nat.lt_irrefl, Nat.not_lt_zero, Nat.reduceLT, List.length_nil] at hown
          obtain ⟨aq, cq, rfl⟩ := owns_shape hown
          have hR := rowG_below h1 hbel
          have hsz := hbel.size
          rcases hR with ⟨hv, hl⟩ | ⟨ad, cap, hv, hL⟩
          · rw [hv] at c0
            have hl2 := Lib.hid hl
            have hv2 := Lib.hid hv
            clear hl hv
            go_wp2_with (at_builtin; refine wpList_append_own_none rfl _ _ 102 rfl w.heap.size 101 i0 2 Try.underlying102 hi _ _ _ rfl hown rfl ?_)
            go_roundw
            case rel =>
              refine ⟨1, by omega, by go_num, ?_, hbel⟩
              have hl := hl2.out
              simpa [hl, cellsG] using hown
            case measure => simp [intOf]
          · rw [hv] at c0
            have hv2 := Lib.hid hv
            clear hv
            have hlc := hL.hlc
            have hcp := hL.hcap
            go_wp2_with (at_builtin; go_loud (refine wpList_append_own _ rfl _ _ 102 rfl w.heap.size 101 i0 (.agg #[.int .i64 0, .int .i64 0]) 2 16 Try.underlying102 hi hz0 hz1 hz2 rfl (by decide) _ _ _ rfl hown ad l1.length cap (cellsG fAmt l1) rfl (cellsG_len fAmt_len l1) (liesG_cells fAmt_len (by decide) hL) (cellsG_one fAmt l1) (by unfold maxLen; omega) (by omega) hsz ?_))
            intro v' w2 hown2 hgr hnil
            have hbel2 := hbel.grown hgr hbel.size (fun k e => (hown.lt k e).1)
            obtain ⟨ar, cr, rfl⟩ := owns_shape hown2
            go_wp2
            go_roundw
            case rel =>
              refine ⟨1, by omega, by go_num, ?_, hbel2⟩
              simpa [cellsG] using hown2
            case measure => simp [intOf]
        · simp only [if_true, if_false, Nat.zero_lt_one, Nat.one_lt_two, Nat.lt_irrefl, Nat.not_lt_zero, Nat.reduceLT, List.length_nil] at hown
          obtain ⟨aq, cq, rfl⟩ := owns_shape hown
          have hR := rowG_below h2 hbel
          have hsz := hbel.size
          rcases hR with ⟨hv, hl⟩ | ⟨ad, cap, hv, hL⟩
          · rw [hv] at c1
            have hl2 := Lib.hid hl
            have hv2 := Lib.hid hv
            clear hl hv
            go_wp2_with (at_builtin; refine wpList_append_own_none rfl _ _ 102 rfl w.heap.size 101 i0 2 Try.underlying102 hi _ _ _ rfl hown rfl ?_)
            go_roundw
            case rel =>
              refine ⟨2, by omega, by go_num, ?_, hbel⟩
              have hl := hl2.out
              simpa [hl, cellsG] using hown
            case measure => simp [intOf]
          · rw [hv] at c1
            have hv2 := Lib.hid hv
            clear hv
            have hlc := hL.hlc
            have hcp := hL.hcap
            go_wp2_with (at_builtin; go_loud (refine wpList_append_own _ rfl _ _ 102 rfl w.heap.size 101 i0 (.agg #[.int .i64 0, .int .i64 0]) 2 16 Try.underlying102 hi hz0 hz1 hz2 rfl (by decide) _ _ _ rfl hown ad l2.length cap (cellsG fAmt l2) rfl (cellsG_len fAmt_len l2) (liesG_cells fAmt_len (by decide) hL) (cellsG_one fAmt l2) (by unfold maxLen; omega) (by omega) hsz ?_))
            intro v' w2 hown2 hgr hnil
            have hbel2 := hbel.grown hgr hbel.size (fun k e => (hown.lt k e).1)
            obtain ⟨ar, cr, rfl⟩ := owns_shape hown2
            go_wp2
            go_roundw
            case rel =>
              refine ⟨2, by omega, by go_num, ?_, hbel2⟩
              simpa [cellsG] using hown2
            case measure => simp [intOf]
        · simp only [if_true, if_false, Nat.zero_lt_one, Nat.one_lt_two, Nat.lt_irrefl, Nat.not_lt_zero, Nat.reduceLT] at hown
          obtain ⟨aq, cq, rfl⟩ := owns_shape hown
          go_wp2
          go_ret
          exact ⟨_, rfl, hown, hbel⟩
end Go.Proofs.Ytiafmojmanhdoaa

/- Contracts of CompareAmounts on both sides. -/
namespace Go.Proofs.Ytiafmojmanhdoaa
open Go.RowKit
set_option linter.unusedVariables false

/-- A divisor of a product that has nothing in common with the first factor divides the second. -/
theorem dvd_of_cop (d x y : Int) (hg : Int.gcd x d = 1) (h : d ∣ x * y) : d ∣ y := by
  have h' : d.natAbs ∣ x.natAbs * y.natAbs := by rw [← Int.natAbs_mul]; exact Int.natAbs_dvd_natAbs.2 h
  have hc : Nat.Coprime d.natAbs x.natAbs := by
    show Nat.gcd d.natAbs x.natAbs = 1
    rw [Nat.gcd_comm]; exact hg
  exact Int.natAbs_dvd_natAbs.1 (hc.dvd_of_dvd_mul_left h')

/-- Two amounts of one value are one. -/
theorem cross_eq (n d p q : Int) (h1 : amB n d = true) (h2 : amB p q = true) (h : n * q = p * d) : n = p ∧ d = q := by
  have a := (amB_iff n d).1 h1
  have b := (amB_iff p q).1 h2
  have ga : Int.gcd n d = 1 := by have := a.2.2.2.2; unfold gi at this; omega
  have gb : Int.gcd p q = 1 := by have := b.2.2.2.2; unfold gi at this; omega
  have d1 : d ∣ q := by
    have : d ∣ n * q := ⟨p, by rw [h, Int.mul_comm]⟩
    exact dvd_of_cop d n q ga this
  have d2 : q ∣ d := by
    have : q ∣ p * d := ⟨n, by rw [← h, Int.mul_comm]⟩
    exact dvd_of_cop q p d gb this
  have e : d = q := Int.dvd_antisymm (by omega) (by omega) d1 d2
  subst e
  exact ⟨Int.eq_of_mul_eq_mul_right (by omega) h, rfl⟩

def cmI (n d p q : Int) : Int := if okk n d p q = true then sgI (n * q - p * d) else 0

set_option maxHeartbeats 800000 in
theorem compare_impl (n d p q : Int) (bn : -9223372036854775808 ≤ n ∧ n ≤ 9223372036854775807) (bd : -9223372036854775808 ≤ d ∧ d ≤ 9223372036854775807) (bp : -9223372036854775808 ≤ p ∧ p ≤ 9223372036854775807) (bq : -9223372036854775808 ≤ q ∧ q ≤ 9223372036854775807) (w : World) :
    Calls Try.prog 116 #[.agg #[.int .i64 n, .int .i64 d], .agg #[.int .i64 p, .int .i64 q]] w fun e w' => e = .returned (.tuple #[.int .i64 (cmI n d p q), .bool (okk n d p q)]) ∧ Below w.heap.size w w' := by
  cases h1 : amB n d
  · have h : okk n d p q = false := by simp [okk, h1]
    have e1 : cmI n d p q = 0 := by simp [cmI, h]
    rw [e1, h]; clear e1 h
    go_enter Try.func116, Try.ntmps116
    (go_wp2_with fail; refine (isam_impl _ _ (by omega) (by omega) _).mono ?_; rintro e w1 ⟨rfl, hb1⟩; rw [h1]; have ha1 := hb1; obtain ⟨kc1, kf1, kz1, ky1, kx1, kv1, ku1⟩ := bcell hb1)
    go_wp2
    go_ret2
    refine ⟨rfl, ?_⟩
    (repeat (first | with_reducible exact Below.refl _ _ | with_reducible assumption | with_reducible refine balloc ?_ _ | with_reducible refine bdrew ?_ | with_reducible refine below_drewN ?_ _ | with_reducible refine bset ?_ ?_ _ | with_reducible exact Nat.le_refl _ | with_reducible refine bsize ?_ | (dsimp only; refine Nat.le_trans ?_ (Nat.le_add_right _ _)) | with_reducible refine Nat.le_trans ?_ (Nat.le_add_right _ _) | (with_reducible refine bstep ?_ (by assumption))))
  · cases h2 : amB p q
    · have h : okk n d p q = false := by simp [okk, h2]
      have e1 : cmI n d p q = 0 := by simp [cmI, h]
      rw [e1, h]; clear e1 h
      go_enter Try.func116, Try.ntmps116
      (go_wp2_with fail; refine (isam_impl _ _ (by omega) (by omega) _).mono ?_; rintro e w1 ⟨rfl, hb1⟩; rw [h1]; have ha1 := hb1; obtain ⟨kc1, kf1, kz1, ky1, kx1, kv1, ku1⟩ := bcell hb1)
      (go_wp2_with fail; refine (isam_impl _ _ (by omega) (by omega) _).mono ?_; rintro e w2 ⟨rfl, hb2⟩; rw [h2]; have ha2 := bjoin ha1 hb2 (by (repeat (first | with_reducible exact Below.refl _ _ | with_reducible assumption | with_reducible refine balloc ?_ _ | with_reducible refine bdrew ?_ | with_reducible refine below_drewN ?_ _ | with_reducible refine bset ?_ ?_ _ | with_reducible exact Nat.le_refl _ | with_reducible refine bsize ?_ | (dsimp only; refine Nat.le_trans ?_ (Nat.le_add_right _ _)) | with_reducible refine Nat.le_trans ?_ (Nat.le_add_right _ _) | (with_reducible refine bstep ?_ (by assumption))))); obtain ⟨kc2, kf2, kz2, ky2, kx2, kv2, ku2⟩ := bcell hb2; obtain ⟨jc2, jf2, jz2, jy2, jx2, jv2, ju2⟩ := bcell ha2)
      go_wp2
      go_ret2
      refine ⟨rfl, ?_⟩
      (repeat (first | with_reducible exact Below.refl _ _ | with_reducible assumption | with_reducible refine balloc ?_ _ | with_reducible refine bdrew ?_ | with_reducible refine below_drewN ?_ _ | with_reducible refine bset ?_ ?_ _ | with_reducible exact Nat.le_refl _ | with_reducible refine bsize ?_ | (dsimp only; refine Nat.le_trans ?_ (Nat.le_add_right _ _)) | with_reducible refine Nat.le_trans ?_ (Nat.le_add_right _ _) | (with_reducible refine bstep ?_ (by assumption))))
    · have h : okk n d p q = true := by simp [okk, h1, h2]
      have hce := cross_eq n d p q h1 h2
      have ha := am_of n d h1
      have hb := am_of p q h2
      have m1 := mul_bd n q ha.a ha.b (by have := hb.c; omega) hb.d
      have m2 := mul_bd p d hb.a hb.b (by have := ha.c; omega) ha.d
      have e1 : cmI n d p q = sgI (n * q - p * d) := by simp [cmI, h]
      rw [e1, h]; clear e1 h
      by_cases he : n = p ∧ d = q
      · obtain ⟨rfl, rfl⟩ := he
        have e2 : sgI (n * d - n * d) = 0 := by simp [sgI]
        rw [e2]; clear e2 ha hb hce m2
        go_enter Try.func116, Try.ntmps116
        (go_wp2_with fail; refine (isam_impl _ _ (by omega) (by omega) _).mono ?_; rintro e w1 ⟨rfl, hb1⟩; rw [h1]; have ha1 := hb1; obtain ⟨kc1, kf1, kz1, ky1, kx1, kv1, ku1⟩ := bcell hb1)
        (go_wp2_with fail; refine (isam_impl _ _ (by omega) (by omega) _).mono ?_; rintro e w2 ⟨rfl, hb2⟩; rw [h2]; have ha2 := bjoin ha1 hb2 (by (repeat (first | with_reducible exact Below.refl _ _ | with_reducible assumption | with_reducible refine balloc ?_ _ | with_reducible refine bdrew ?_ | with_reducible refine below_drewN ?_ _ | with_reducible refine bset ?_ ?_ _ | with_reducible exact Nat.le_refl _ | with_reducible refine bsize ?_ | (dsimp only; refine Nat.le_trans ?_ (Nat.le_add_right _ _)) | with_reducible refine Nat.le_trans ?_ (Nat.le_add_right _ _) | (with_reducible refine bstep ?_ (by assumption))))); obtain ⟨kc2, kf2, kz2, ky2, kx2, kv2, ku2⟩ := bcell hb2; obtain ⟨jc2, jf2, jz2, jy2, jx2, jv2, ju2⟩ := bcell ha2)
        go_wp2
        go_ret2
        refine ⟨rfl, ?_⟩
        (repeat (first | with_reducible exact Below.refl _ _ | with_reducible assumption | with_reducible refine balloc ?_ _ | with_reducible refine bdrew ?_ | with_reducible refine below_drewN ?_ _ | with_reducible refine bset ?_ ?_ _ | with_reducible exact Nat.le_refl _ | with_reducible refine bsize ?_ | (dsimp only; refine Nat.le_trans ?_ (Nat.le_add_right _ _)) | with_reducible refine Nat.le_trans ?_ (Nat.le_add_right _ _) | (with_reducible refine bstep ?_ (by assumption))))
      · have hne : n * q ≠ p * d := fun e => he (hce e)
        clear ha hb hce
        by_cases hnp : n = p
        · subst hnp
          have hdq : ¬ d = q := fun e => he ⟨rfl, e⟩
          clear he
          by_cases hl : n * q < n * d
          · have e2 : sgI (n * q - n * d) = -1 := by unfold sgI; rw [if_neg (by omega), if_pos (by omega)]
            rw [e2]; clear e2 hne
            go_enter Try.func116, Try.ntmps116
            (go_wp2_with fail; refine (isam_impl _ _ (by omega) (by omega) _).mono ?_; rintro e w1 ⟨rfl, hb1⟩; rw [h1]; have ha1 := hb1; obtain ⟨kc1, kf1, kz1, ky1, kx1, kv1, ku1⟩ := bcell hb1)
            (go_wp2_with fail; refine (isam_impl _ _ (by omega) (by omega) _).mono ?_; rintro e w2 ⟨rfl, hb2⟩; rw [h2]; have ha2 := bjoin ha1 hb2 (by (repeat (first | with_reducible exact Below.refl _ _ | with_reducible assumption | with_reducible refine balloc ?_ _ | with_reducible refine bdrew ?_ | with_reducible refine below_drewN ?_ _ | with_reducible refine bset ?_ ?_ _ | with_reducible exact Nat.le_refl _ | with_reducible refine bsize ?_ | (dsimp only; refine Nat.le_trans ?_ (Nat.le_add_right _ _)) | with_reducible refine Nat.le_trans ?_ (Nat.le_add_right _ _) | (with_reducible refine bstep ?_ (by assumption))))); obtain ⟨kc2, kf2, kz2, ky2, kx2, kv2, ku2⟩ := bcell hb2; obtain ⟨jc2, jf2, jz2, jy2, jx2, jv2, ju2⟩ := bcell ha2)
            go_wp2
            go_ret2
            refine ⟨rfl, ?_⟩
            (repeat (first | with_reducible exact Below.refl _ _ | with_reducible assumption | with_reducible refine balloc ?_ _ | with_reducible refine bdrew ?_ | with_reducible refine below_drewN ?_ _ | with_reducible refine bset ?_ ?_ _ | with_reducible exact Nat.le_refl _ | with_reducible refine bsize ?_ | (dsimp only; refine Nat.le_trans ?_ (Nat.le_add_right _ _)) | with_reducible refine Nat.le_trans ?_ (Nat.le_add_right _ _) | (with_reducible refine bstep ?_ (by assumption))))
          · have e2 : sgI (n * q - n * d) = 1 := by unfold sgI; rw [if_pos (by omega)]
            rw [e2]; clear e2 hne
            go_enter Try.func116, Try.ntmps116
            (go_wp2_with fail; refine (isam_impl _ _ (by omega) (by omega) _).mono ?_; rintro e w1 ⟨rfl, hb1⟩; rw [h1]; have ha1 := hb1; obtain ⟨kc1, kf1, kz1, ky1, kx1, kv1, ku1⟩ := bcell hb1)
            (go_wp2_with fail; refine (isam_impl _ _ (by omega) (by omega) _).mono ?_; rintro e w2 ⟨rfl, hb2⟩; rw [h2]; have ha2 := bjoin ha1 hb2 (by (repeat (first | with_reducible exact Below.refl _ _ | with_reducible assumption | with_reducible refine balloc ?_ _ | with_reducible refine bdrew ?_ | with_reducible refine below_drewN ?_ _ | with_reducible refine bset ?_ ?_ _ | with_reducible exact Nat.le_refl _ | with_reducible refine bsize ?_ | (dsimp only; refine Nat.le_trans ?_ (Nat.le_add_right _ _)) | with_reducible refine Nat.le_trans ?_ (Nat.le_add_right _ _) | (with_reducible refine bstep ?_ (by assumption))))); obtain ⟨kc2, kf2, kz2, ky2, kx2, kv2, ku2⟩ := bcell hb2; obtain ⟨jc2, jf2, jz2, jy2, jx2, jv2, ju2⟩ := bcell ha2)
            go_wp2
            go_ret2
            refine ⟨rfl, ?_⟩
            (repeat (first | with_reducible exact Below.refl _ _ | with_reducible assumption | with_reducible refine balloc ?_ _ | with_reducible refine bdrew ?_ | with_reducible refine below_drewN ?_ _ | with_reducible refine bset ?_ ?_ _ | with_reducible exact Nat.le_refl _ | with_reducible refine bsize ?_ | (dsimp only; refine Nat.le_trans ?_ (Nat.le_add_right _ _)) | with_reducible refine Nat.le_trans ?_ (Nat.le_add_right _ _) | (with_reducible refine bstep ?_ (by assumption))))
        · clear he
          by_cases hl : n * q < p * d
          · have e2 : sgI (n * q - p * d) = -1 := by unfold sgI; rw [if_neg (by omega), if_pos (by omega)]
            rw [e2]; clear e2 hne
            go_enter Try.func116, Try.ntmps116
            (go_wp2_with fail; refine (isam_impl _ _ (by omega) (by omega) _).mono ?_; rintro e w1 ⟨rfl, hb1⟩; rw [h1]; have ha1 := hb1; obtain ⟨kc1, kf1, kz1, ky1, kx1, kv1, ku1⟩ := bcell hb1)
            (go_wp2_with fail; refine (isam_impl _ _ (by omega) (by omega) _).mono ?_; rintro e w2 ⟨rfl, hb2⟩; rw [h2]; have ha2 := bjoin ha1 hb2 (by (repeat (first | with_reducible exact Below.refl _ _ | with_reducible assumption | with_reducible refine balloc ?_ _ | with_reducible refine bdrew ?_ | with_reducible refine below_drewN ?_ _ | with_reducible refine bset ?_ ?_ _ | with_reducible exact Nat.le_refl _ | with_reducible refine bsize ?_ | (dsimp only; refine Nat.le_trans ?_ (Nat.le_add_right _ _)) | with_reducible refine Nat.le_trans ?_ (Nat.le_add_right _ _) | (with_reducible refine bstep ?_ (by assumption))))); obtain ⟨kc2, kf2, kz2, ky2, kx2, kv2, ku2⟩ := bcell hb2; obtain ⟨jc2, jf2, jz2, jy2, jx2, jv2, ju2⟩ := bcell ha2)
            go_wp2
            go_ret2
            refine ⟨rfl, ?_⟩
            (repeat (first | with_reducible exact Below.refl _ _ | with_reducible assumption | with_reducible refine balloc ?_ _ | with_reducible refine bdrew ?_ | with_reducible refine below_drewN ?_ _ | with_reducible refine bset ?_ ?_ _ | with_reducible exact Nat.le_refl _ | with_reducible refine bsize ?_ | (dsimp only; refine Nat.le_trans ?_ (Nat.le_add_right _ _)) | with_reducible refine Nat.le_trans ?_ (Nat.le_add_right _ _) | (with_reducible refine bstep ?_ (by assumption))))
          · have e2 : sgI (n * q - p * d) = 1 := by unfold sgI; rw [if_pos (by omega)]
            rw [e2]; clear e2 hne
            go_enter Try.func116, Try.ntmps116
            (go_wp2_with fail; refine (isam_impl _ _ (by omega) (by omega) _).mono ?_; rintro e w1 ⟨rfl, hb1⟩; rw [h1]; have ha1 := hb1; obtain ⟨kc1, kf1, kz1, ky1, kx1, kv1, ku1⟩ := bcell hb1)
            (go_wp2_with fail; refine (isam_impl _ _ (by omega) (by omega) _).mono ?_; rintro e w2 ⟨rfl, hb2⟩; rw [h2]; have ha2 := bjoin ha1 hb2 (by (repeat (first | with_reducible exact Below.refl _ _ | with_reducible assumption | with_reducible refine balloc ?_ _ | with_reducible refine bdrew ?_ | with_reducible refine below_drewN ?_ _ | with_reducible refine bset ?_ ?_ _ | with_reducible exact Nat.le_refl _ | with_reducible refine bsize ?_ | (dsimp only; refine Nat.le_trans ?_ (Nat.le_add_right _ _)) | with_reducible refine Nat.le_trans ?_ (Nat.le_add_right _ _) | (with_reducible refine bstep ?_ (by assumption))))); obtain ⟨kc2, kf2, kz2, ky2, kx2, kv2, ku2⟩ := bcell hb2; obtain ⟨jc2, jf2, jz2, jy2, jx2, jv2, ju2⟩ := bcell ha2)
            go_wp2
            go_ret2
            refine ⟨rfl, ?_⟩
            (repeat (first | with_reducible exact Below.refl _ _ | with_reducible assumption | with_reducible refine balloc ?_ _ | with_reducible refine bdrew ?_ | with_reducible refine below_drewN ?_ _ | with_reducible refine bset ?_ ?_ _ | with_reducible exact Nat.le_refl _ | with_reducible refine bsize ?_ | (dsimp only; refine Nat.le_trans ?_ (Nat.le_add_right _ _)) | with_reducible refine Nat.le_trans ?_ (Nat.le_add_right _ _) | (with_reducible refine bstep ?_ (by assumption))))
end Go.Proofs.Ytiafmojmanhdoaa

/- Roads: places of roads, of both sides. -/
namespace Go.Proofs.Ytiafmojmanhdoaa
open Go.ChangeShapes Go.WideShapes Go.ChangeAt Go.RowKit Go.Joins
set_option maxRecDepth 100000
set_option linter.unusedVariables false
set_option linter.unusedSimpArgs false


def rpB (n d : Int) : Bool := amB n d && decide (d ≤ 1000 ∧ n ≤ 1000 * d)
def rpP (p : Int × Int) : Bool := rpB p.1 p.2
set_option maxHeartbeats 1600000 in
theorem rp_impl (n d : Int) (bn : -9223372036854775808 ≤ n ∧ n ≤ 9223372036854775807) (bd : -9223372036854775808 ≤ d ∧ d ≤ 9223372036854775807) (w : World) :
    Calls Try.prog 123 #[.agg #[.int .i64 n, .int .i64 d]] w fun e w' => e = .returned (.bool (rpB n d)) ∧ Below w.heap.size w w' := by
  have HC := Lib.hid (fun W => isam_impl n d (by omega) (by omega) W)
  cases h : amB n d
  · have e : rpB n d = false := by simp [rpB, h]
    rw [h] at HC
    rw [e]; clear e
    go_enter Try.func123, Try.ntmps123
    go_wp2_with fail
    refine (HC.out _).mono ?_
    rintro e w1 ⟨rfl, hb1⟩
    go_wp2
    go_ret
    refine ⟨rfl, ?_⟩
    (repeat (first | with_reducible exact Below.refl _ _ | with_reducible assumption | with_reducible refine balloc ?_ _ | with_reducible refine bdrew ?_ | with_reducible refine below_drewN ?_ _ | with_reducible refine bset ?_ ?_ _ | with_reducible exact Nat.le_refl _ | with_reducible refine bsize ?_ | (dsimp only; refine Nat.le_trans ?_ (Nat.le_add_right _ _)) | with_reducible refine Nat.le_trans ?_ (Nat.le_add_right _ _) | (with_reducible refine bstep ?_ (by assumption))))
  · have ha := am_of _ _ h
    have e : rpB n d = decide (d ≤ 1000 ∧ n ≤ 1000 * d) := by simp [rpB, h]
    rw [h] at HC
    rw [e]; clear e h
    have h0 := ha.a
    have h1 := ha.b
    have h2 := ha.c
    have h3 := ha.d
    by_cases hd : d ≤ 1000
    · by_cases hn : n ≤ 1000 * d
      all_goals
        have e : decide (d ≤ 1000 ∧ n ≤ 1000 * d) = decide (n ≤ 1000 * d) := by simp [hd]
        rw [e]; clear e
        go_enter Try.func123, Try.ntmps123
        go_wp2_with fail
        refine (HC.out _).mono ?_
        rintro e w1 ⟨rfl, hb1⟩
        have ha1 : Below w.heap.size w w1 := by (repeat (first | with_reducible exact Below.refl _ _ | with_reducible assumption | with_reducible refine balloc ?_ _ | with_reducible refine bdrew ?_ | with_reducible refine below_drewN ?_ _ | with_reducible refine bset ?_ ?_ _ | with_reducible exact Nat.le_refl _ | with_reducible refine bsize ?_ | (dsimp only; refine Nat.le_trans ?_ (Nat.le_add_right _ _)) | with_reducible refine Nat.le_trans ?_ (Nat.le_add_right _ _) | (with_reducible refine bstep ?_ (by assumption))))
        obtain ⟨kc1, kf1, kz1, ky1, kx1, kv1, ku1⟩ := bcell hb1
        have q1_h_0 : w1.cell? ⟨w.heap.size, 0, none⟩ = some (.int .i64 n) := by rw [kc1 _ _ (by first | assumption | (simp; done) | (simp; omega) | omega)]; simp [go_sem]
        have r1_h_0 : w1.frozen? ⟨w.heap.size, 0, none⟩ = false := by rw [kf1 _ _ (by first | assumption | (simp; done) | (simp; omega) | omega)]; simp [go_sem]
        have q1_h_1 : w1.cell? ⟨w.heap.size, 1, none⟩ = some (.int .i64 d) := by rw [kc1 _ _ (by first | assumption | (simp; done) | (simp; omega) | omega)]; simp [go_sem]
        have r1_h_1 : w1.frozen? ⟨w.heap.size, 1, none⟩ = false := by rw [kf1 _ _ (by first | assumption | (simp; done) | (simp; omega) | omega)]; simp [go_sem]
        have z1_h : w.heap.size < w1.heap.size := kz1 _ (by first | assumption | (simp; done) | (simp; omega) | omega)
        clear kc1 kf1 kz1 ky1 kx1 kv1 ku1 hb1
        go_wp2
        go_ret
        refine ⟨by first | rfl | simp [hn] | (simp; omega), ?_⟩
        (repeat (first | with_reducible exact Below.refl _ _ | with_reducible assumption | with_reducible refine balloc ?_ _ | with_reducible refine bdrew ?_ | with_reducible refine below_drewN ?_ _ | with_reducible refine bset ?_ ?_ _ | with_reducible exact Nat.le_refl _ | with_reducible refine bsize ?_ | (dsimp only; refine Nat.le_trans ?_ (Nat.le_add_right _ _)) | with_reducible refine Nat.le_trans ?_ (Nat.le_add_right _ _) | (with_reducible refine bstep ?_ (by assumption))))
    · have e : decide (d ≤ 1000 ∧ n ≤ 1000 * d) = false := by simp [hd]
      rw [e]; clear e
      go_enter Try.func123, Try.ntmps123
      go_wp2_with fail
      refine (HC.out _).mono ?_
      rintro e w1 ⟨rfl, hb1⟩
      have ha1 : Below w.heap.size w w1 := by (repeat (first | with_reducible exact Below.refl _ _ | with_reducible assumption | with_reducible refine balloc ?_ _ | with_reducible refine bdrew ?_ | with_reducible refine below_drewN ?_ _ | with_reducible refine bset ?_ ?_ _ | with_reducible exact Nat.le_refl _ | with_reducible refine bsize ?_ | (dsimp only; refine Nat.le_trans ?_ (Nat.le_add_right _ _)) | with_reducible refine Nat.le_trans ?_ (Nat.le_add_right _ _) | (with_reducible refine bstep ?_ (by assumption))))
      obtain ⟨kc1, kf1, kz1, ky1, kx1, kv1, ku1⟩ := bcell hb1
      have q1_h_0 : w1.cell? ⟨w.heap.size, 0, none⟩ = some (.int .i64 n) := by rw [kc1 _ _ (by first | assumption | (simp; done) | (simp; omega) | omega)]; simp [go_sem]
      have r1_h_0 : w1.frozen? ⟨w.heap.size, 0, none⟩ = false := by rw [kf1 _ _ (by first | assumption | (simp; done) | (simp; omega) | omega)]; simp [go_sem]
      have q1_h_1 : w1.cell? ⟨w.heap.size, 1, none⟩ = some (.int .i64 d) := by rw [kc1 _ _ (by first | assumption | (simp; done) | (simp; omega) | omega)]; simp [go_sem]
      have r1_h_1 : w1.frozen? ⟨w.heap.size, 1, none⟩ = false := by rw [kf1 _ _ (by first | assumption | (simp; done) | (simp; omega) | omega)]; simp [go_sem]
      have z1_h : w.heap.size < w1.heap.size := kz1 _ (by first | assumption | (simp; done) | (simp; omega) | omega)
      clear kc1 kf1 kz1 ky1 kx1 kv1 ku1 hb1
      go_wp2
      go_ret
      refine ⟨rfl, ?_⟩
      (repeat (first | with_reducible exact Below.refl _ _ | with_reducible assumption | with_reducible refine balloc ?_ _ | with_reducible refine bdrew ?_ | with_reducible refine below_drewN ?_ _ | with_reducible refine bset ?_ ?_ _ | with_reducible exact Nat.le_refl _ | with_reducible refine bsize ?_ | (dsimp only; refine Nat.le_trans ?_ (Nat.le_add_right _ _)) | with_reducible refine Nat.le_trans ?_ (Nat.le_add_right _ _) | (with_reducible refine bstep ?_ (by assumption))))
end Go.Proofs.Ytiafmojmanhdoaa

/- Lists of amounts: at most 20, all of them valid (the program). -/
namespace Go.Proofs.Ytiafmojmanhdoaa
open Go.ChangeShapes Go.WideShapes Go.ChangeAt Go.RowKit Go.Joins
set_option maxRecDepth 100000
set_option linter.unusedVariables false
set_option linter.unusedSimpArgs false

def lsrP (p : (Int × Int)) : Bool := rpB p.1 p.2
def lsrB (M : Int) (l : List (Int × Int)) : Bool := decide ((l.length : Int) ≤ M) && l.all lsrP
theorem lsr_clo (x y : Int) (b0 : -9223372036854775808 ≤ x ∧ x ≤ 9223372036854775807) (b1 : -9223372036854775808 ≤ y ∧ y ≤ 9223372036854775807) (g : Nat) (w : World) (hc : w.cell? ⟨g, 0, none⟩ = some (.func (.func 123) #[] #[])) :
    Calls Try.prog 134 #[.agg #[.int .i64 x, .int .i64 y], .pointer (some ⟨g, 0, none⟩)] w fun e w' => e = .returned (.bool (!rpB x y)) ∧ Below w.heap.size w w' := by
  have hg : g < w.heap.size := cell_lt hc
  have HP := Lib.hid (fun W => rp_impl x y b0 b1 W)
  generalize rpB x y = B at *
  go_enter Try.func134, Try.ntmps134
  go_wp2_with fail
  refine (HP.out _).mono ?_
  rintro e w1 ⟨rfl, hb1⟩
  go_wp2
  go_ret
  refine ⟨rfl, ?_⟩
  (repeat (first | with_reducible exact Below.refl _ _ | with_reducible assumption | with_reducible refine balloc ?_ _ | with_reducible refine bdrew ?_ | with_reducible refine below_drewN ?_ _ | with_reducible refine bset ?_ ?_ _ | with_reducible exact Nat.le_refl _ | with_reducible refine bsize ?_ | (dsimp only; refine Nat.le_trans ?_ (Nat.le_add_right _ _)) | with_reducible refine Nat.le_trans ?_ (Nat.le_add_right _ _) | (with_reducible refine bstep ?_ (by assumption))))
set_option maxHeartbeats 800000 in
theorem lsr_ix (a : Addr) (cap : Nat) (l : List (Int × Int)) (g : Nat) (w : World) (hL : LiesG 2 fAmt w a cap l) (hcl : w.cell? ⟨g, 0, none⟩ = some (.func (.func 123) #[] #[])) :
    Calls Try.prog 139 #[.slice (some a) l.length cap, .func (.func 134) #[] #[.pointer (some ⟨g, 0, none⟩)]] w fun e w' => ∃ i : Int, e = .returned (.int .i64 i) ∧ Hid (decide (0 ≤ i) = !l.all lsrP) ∧ Below w.heap.size w w' := by
  have hlc := hL.hlc
  have hcap := hL.hcap
  have hg : g < w.heap.size := cell_lt hcl
  go_enter Try.func139, Try.ntmps139
  go_wp2
  go_loopw [8] (fun i wr => ∃ k : Nat, k ≤ l.length ∧ i = .int .i64 k ∧ Hid (∀ j p, j < k → l[j]? = some p → lsrP p = true) ∧ Below w.heap.size w wr) (fun i _ => l.length - (intOf i).toNat)
  case atStart => exact ⟨0, Nat.zero_le _, rfl, Lib.hid (fun j p h _ => absurd h (by omega)), Below.refl _ _⟩
  case round =>
    obtain ⟨k, hk, rfl, hall, hbel⟩ := hrel
    by_cases hlt : k < l.length
    · obtain ⟨p, hp⟩ : ∃ p, l[k]? = some p := ⟨_, List.getElem?_eq_getElem hlt⟩
      have hL2 := liesG_below hL hbel
      have hc := hL2.hcell k p hp
      have e0 := hc 0 p.1 rfl
      rw [Nat.add_zero] at e0
      have e1 : wr.cell? ⟨(a.add (k * 2)).block, (a.add (k * 2)).off + 1, none⟩ = some (.int .i64 p.2) := by
        have h := hc 1 p.2 rfl
        rw [← Deep.add_add] at h
        exact h
      clear hc
      have hbd := hL.hbd p (List.mem_of_getElem? hp)
      have b0 : -9223372036854775808 ≤ p.1 ∧ p.1 ≤ 9223372036854775807 := hbd p.1 (by simp [fAmt])
      have b1 : -9223372036854775808 ≤ p.2 ∧ p.2 ≤ 9223372036854775807 := hbd p.2 (by simp [fAmt])
      clear hbd
      have hcw := keepa hbel hg hcl
      have HC := Lib.hid (fun W h => lsr_clo p.1 p.2 b0 b1 g W h)
      cases hP : rpB p.1 p.2
      · have hno : Hid (l.all lsrP = false) := by
          rw [Bool.eq_false_iff]
          intro h
          have := (List.all_eq_true.1 h) p (List.mem_of_getElem? hp)
          unfold lsrP at this
          rw [hP] at this
          cases this
        rw [hP] at HC
        have HP2 := Lib.hid hP
        clear hL2 hP hall
        go_wp2_with fail
        refine (HC.out _ (by simpa [go_sem] using hcw)).mono ?_
        rintro e w2 ⟨rfl, hb2⟩
        go_wp2
        go_ret
        refine ⟨_, rfl, ?_, ?_⟩
        · have hno := hno.out
          exact Lib.hid (by rw [hno]; simp)
        · (repeat (first | with_reducible exact Below.refl _ _ | with_reducible assumption | with_reducible refine balloc ?_ _ | with_reducible refine bdrew ?_ | with_reducible refine below_drewN ?_ _ | with_reducible refine bset ?_ ?_ _ | with_reducible exact Nat.le_refl _ | with_reducible refine bsize ?_ | (dsimp only; refine Nat.le_trans ?_ (Nat.le_add_right _ _)) | with_reducible refine Nat.le_trans ?_ (Nat.le_add_right _ _) | (with_reducible refine bstep ?_ (by assumption))))
      · have hnext : Hid (∀ j p, j < k + 1 → l[j]? = some p → lsrP p = true) := by
          have h := hall.out
          refine Lib.hid (fun j q hj hq => ?_)
          by_cases e : j = k
          · subst e
            rw [hp] at hq
            injection hq with hq
            subst hq
            exact hP
          · exact h j q (by omega) hq
        rw [hP] at HC
        clear hL2 hP hall
        go_wp2_with fail
        refine (HC.out _ (by simpa [go_sem] using hcw)).mono ?_
        rintro e w2 ⟨rfl, hb2⟩
        go_wp2
        go_roundw
        case rel => exact ⟨k + 1, by omega, by go_num, hnext, by (repeat (first | with_reducible exact Below.refl _ _ | with_reducible assumption | with_reducible refine balloc ?_ _ | with_reducible refine bdrew ?_ | with_reducible refine below_drewN ?_ _ | with_reducible refine bset ?_ ?_ _ | with_reducible exact Nat.le_refl _ | with_reducible refine bsize ?_ | (dsimp only; refine Nat.le_trans ?_ (Nat.le_add_right _ _)) | with_reducible refine Nat.le_trans ?_ (Nat.le_add_right _ _) | (with_reducible refine bstep ?_ (by assumption))))⟩
        case measure => simp [intOf]; omega
    · have hkl : k = l.length := by omega
      have hyes : Hid (l.all lsrP = true) := by
        have h := hall.out
        refine Lib.hid (List.all_eq_true.2 fun p hp => ?_)
        obtain ⟨j, hj, hjp⟩ := List.mem_iff_getElem.1 hp
        exact h j p (by omega) (by rw [List.getElem?_eq_getElem hj, hjp])
      clear hall
      go_wp2
      go_ret
      refine ⟨_, rfl, ?_, hbel⟩
      have hyes := hyes.out
      exact Lib.hid (by rw [hyes]; simp)
theorem lsr_ix_nil (g : Nat) (w : World) :
    Calls Try.prog 139 #[.slice none 0 0, .func (.func 134) #[] #[.pointer (some ⟨g, 0, none⟩)]] w fun e w' => ∃ i : Int, e = .returned (.int .i64 i) ∧ Hid (decide (0 ≤ i) = !([] : List (Int × Int)).all lsrP) ∧ Below w.heap.size w w' := by
  go_enter Try.func139, Try.ntmps139
  go_wp2
  go_loopw [8] (fun i wr => i = .int .i64 0 ∧ wr = w) (fun _ _ => 0)
  case atStart => exact ⟨rfl, rfl⟩
  case round =>
    obtain ⟨rfl, rfl⟩ := hrel
    go_wp2
    go_ret
    exact ⟨_, rfl, Lib.hid (by simp), Below.refl _ _⟩
theorem lsr_has (v : Value) (l : List (Int × Int)) (g : Nat) (w : World) (h : RowG 2 fAmt w v l) (hcl : w.cell? ⟨g, 0, none⟩ = some (.func (.func 123) #[] #[])) :
    Calls Try.prog 133 #[v, .func (.func 134) #[] #[.pointer (some ⟨g, 0, none⟩)]] w fun e w' => e = .returned (.bool (!l.all lsrP)) ∧ Below w.heap.size w w' := by
  have HI : Hid (∀ W, Below w.heap.size w W → Calls Try.prog 139 #[v, .func (.func 134) #[] #[.pointer (some ⟨g, 0, none⟩)]] W fun e w' => ∃ i : Int, e = .returned (.int .i64 i) ∧ Hid (decide (0 ≤ i) = !l.all lsrP) ∧ Below W.heap.size W w') := by
    refine Lib.hid (fun W hb => ?_)
    rcases h with ⟨rfl, rfl⟩ | ⟨a, cap, rfl, hL⟩
    · exact lsr_ix_nil g W
    · exact lsr_ix a cap l g W (liesG_below hL hb) (keepa hb (cell_lt hcl) hcl)
  have hsh : ∃ a n c, v = .slice a n c := by
    rcases h with ⟨rfl, _⟩ | ⟨a, cap, rfl, _⟩ <;> exact ⟨_, _, _, rfl⟩
  obtain ⟨a, n, c, rfl⟩ := hsh
  clear h
  generalize l.all lsrP = B at *
  go_enter Try.func133, Try.ntmps133
  go_wp2_with fail
  refine (HI.out _ (by (repeat (first | with_reducible exact Below.refl _ _ | with_reducible assumption | with_reducible refine balloc ?_ _ | with_reducible refine bdrew ?_ | with_reducible refine below_drewN ?_ _ | with_reducible refine bset ?_ ?_ _ | with_reducible exact Nat.le_refl _ | with_reducible refine bsize ?_ | (dsimp only; refine Nat.le_trans ?_ (Nat.le_add_right _ _)) | with_reducible refine Nat.le_trans ?_ (Nat.le_add_right _ _) | (with_reducible refine bstep ?_ (by assumption)))))).mono ?_
  rintro e w1 ⟨i, rfl, hi, hb1⟩
  by_cases h0 : 0 ≤ i
  all_goals
    have hB := hi.out
    simp only [h0, decide_true, decide_false] at hB
    replace hB := Lib.hid hB
    clear hi
    go_wp2
    go_ret
    refine ⟨by rw [← hB.out]; first | rfl | simp [h0], ?_⟩
    (repeat (first | with_reducible exact Below.refl _ _ | with_reducible assumption | with_reducible refine balloc ?_ _ | with_reducible refine bdrew ?_ | with_reducible refine below_drewN ?_ _ | with_reducible refine bset ?_ ?_ _ | with_reducible exact Nat.le_refl _ | with_reducible refine bsize ?_ | (dsimp only; refine Nat.le_trans ?_ (Nat.le_add_right _ _)) | with_reducible refine Nat.le_trans ?_ (Nat.le_add_right _ _) | (with_reducible refine bstep ?_ (by assumption))))
theorem lsr_is (M : Int) (v : Value) (l : List (Int × Int)) (w : World) (h : RowG 2 fAmt w v l) :
    Calls Try.prog 124 #[v, .int .i64 M, .func (.func 123) #[] #[]] w fun e w' => e = .returned (.bool (lsrB M l)) ∧ Below w.heap.size w w' := by
  have HC := Lib.hid (fun W g (hb : Below w.heap.size w W) hc => lsr_has v l g W (by
    rcases h with ⟨rfl, rfl⟩ | ⟨a, cap, rfl, hL⟩
    · exact Or.inl ⟨rfl, rfl⟩
    · exact Or.inr ⟨a, cap, rfl, liesG_below hL hb⟩) hc)
  have hsh : ∃ a c, v = .slice a l.length c ∧ l.length ≤ 9223372036854775807 := by
    rcases h with ⟨rfl, rfl⟩ | ⟨a, cap, rfl, hL⟩
    · exact ⟨none, 0, rfl, by simp⟩
    · exact ⟨some a, cap, rfl, by have := hL.hlc; have := hL.hcap; omega⟩
  obtain ⟨a, c, rfl, hn⟩ := hsh
  clear h
  unfold lsrB
  generalize l.all lsrP = B at *
  generalize l.length = n at *
  by_cases h20 : (n : Int) ≤ M
  · go_enter Try.func124, Try.ntmps124
    go_wp2_with fail
    refine (HC.out _ w.heap.size (by (repeat (first | with_reducible exact Below.refl _ _ | with_reducible assumption | with_reducible refine balloc ?_ _ | with_reducible refine bdrew ?_ | with_reducible refine below_drewN ?_ _ | with_reducible refine bset ?_ ?_ _ | with_reducible exact Nat.le_refl _ | with_reducible refine bsize ?_ | (dsimp only; refine Nat.le_trans ?_ (Nat.le_add_right _ _)) | with_reducible refine Nat.le_trans ?_ (Nat.le_add_right _ _) | (with_reducible refine bstep ?_ (by assumption))))) (by simp)).mono ?_
    rintro e w1 ⟨rfl, hb1⟩
    go_wp2
    go_ret
    refine ⟨by simp [h20], ?_⟩
    (repeat (first | with_reducible exact Below.refl _ _ | with_reducible assumption | with_reducible refine balloc ?_ _ | with_reducible refine bdrew ?_ | with_reducible refine below_drewN ?_ _ | with_reducible refine bset ?_ ?_ _ | with_reducible exact Nat.le_refl _ | with_reducible refine bsize ?_ | (dsimp only; refine Nat.le_trans ?_ (Nat.le_add_right _ _)) | with_reducible refine Nat.le_trans ?_ (Nat.le_add_right _ _) | (with_reducible refine bstep ?_ (by assumption))))
  · go_enter Try.func124, Try.ntmps124
    go_wp2
    go_ret
    refine ⟨by simp; intro h; omega, ?_⟩
    (repeat (first | with_reducible exact Below.refl _ _ | with_reducible assumption | with_reducible refine balloc ?_ _ | with_reducible refine bdrew ?_ | with_reducible refine below_drewN ?_ _ | with_reducible refine bset ?_ ?_ _ | with_reducible exact Nat.le_refl _ | with_reducible refine bsize ?_ | (dsimp only; refine Nat.le_trans ?_ (Nat.le_add_right _ _)) | with_reducible refine Nat.le_trans ?_ (Nat.le_add_right _ _) | (with_reducible refine bstep ?_ (by assumption))))
end Go.Proofs.Ytiafmojmanhdoaa

/- Camels: lists of places that increase (the program). -/
namespace Go.Proofs.Ytiafmojmanhdoaa
open Go.ChangeShapes Go.WideShapes Go.ChangeAt Go.RowKit Go.Joins
set_option maxRecDepth 100000
set_option linter.unusedVariables false
set_option linter.unusedSimpArgs false

/-- How the element number i stands to the next one. -/
def cmAt (l : List (Int × Int)) (i : Nat) : Int := match l[i]?, l[i + 1]? with | some p, some q => cmI p.1 p.2 q.1 q.2 | _, _ => -1
def incB (l : List (Int × Int)) : Bool := (List.range (l.length - 1)).all fun i => decide (cmAt l i < 0)
theorem cmAt_is (l : List (Int × Int)) (i : Nat) (p q : Int × Int) (hp : l[i]? = some p) (hq : l[i + 1]? = some q) : cmAt l i = cmI p.1 p.2 q.1 q.2 := by unfold cmAt; rw [hp, hq]
theorem incB_no (l : List (Int × Int)) (i : Nat) (hi : i + 1 < l.length) (h : ¬ cmAt l i < 0) : incB l = false := by
  rw [Bool.eq_false_iff]
  intro hb
  have := (List.all_eq_true.1 hb) i (List.mem_range.2 (by omega))
  exact h (of_decide_eq_true this)
theorem incB_yes (l : List (Int × Int)) (h : ∀ i, i + 1 < l.length → cmAt l i < 0) : incB l = true :=
  List.all_eq_true.2 fun i hi => decide_eq_true (h i (by have := List.mem_range.1 hi; omega))
set_option maxHeartbeats 1600000 in
theorem incr_some (a : Addr) (cap : Nat) (l : List (Int × Int)) (w : World) (hL : LiesG 2 fAmt w a cap l) :
    Calls Try.prog 125 #[.slice (some a) l.length cap] w fun e w' => e = .returned (.bool (incB l)) ∧ Below w.heap.size w w' := by
  have hlc := hL.hlc
  have hcap := hL.hcap
  go_enter Try.func125, Try.ntmps125
  go_wp2
  go_loopw [9] (fun i wr => ∃ k : Nat, (k + 1 ≤ l.length ∨ k = 0) ∧ i = .int .i64 k ∧ Hid (∀ j, j < k → cmAt l j < 0) ∧ Below w.heap.size w wr) (fun i _ => l.length - (intOf i).toNat)
  case atStart => exact ⟨0, Or.inr rfl, rfl, Lib.hid (fun j h => absurd h (by omega)), Below.refl _ _⟩
  case round =>
    obtain ⟨k, hk, rfl, hall, hbel⟩ := hrel
    by_cases hlt : k + 1 < l.length
    · obtain ⟨p, hp⟩ : ∃ p, l[k]? = some p := ⟨_, List.getElem?_eq_getElem (by omega)⟩
      obtain ⟨q, hq⟩ : ∃ q, l[k + 1]? = some q := ⟨_, List.getElem?_eq_getElem hlt⟩
      have hL2 := liesG_below hL hbel
      have hc := hL2.hcell (k) p hp
      have e0 := hc 0 p.1 rfl
      rw [Nat.add_zero] at e0
      have e1 : wr.cell? ⟨(a.add ((k) * 2)).block, (a.add ((k) * 2)).off + 1, none⟩ = some (.int .i64 p.2) := by
        have h := hc 1 p.2 rfl
        rw [← Deep.add_add] at h
        exact h
      clear hc
      have hc := hL2.hcell (k + 1) q hq
      have f0 := hc 0 q.1 rfl
      rw [Nat.add_zero] at f0
      have f1 : wr.cell? ⟨(a.add ((k + 1) * 2)).block, (a.add ((k + 1) * 2)).off + 1, none⟩ = some (.int .i64 q.2) := by
        have h := hc 1 q.2 rfl
        rw [← Deep.add_add] at h
        exact h
      clear hc
      have hbd := hL.hbd p (List.mem_of_getElem? hp)
      have b0 : -9223372036854775808 ≤ p.1 ∧ p.1 ≤ 9223372036854775807 := hbd p.1 (by simp [fAmt])
      have b1 : -9223372036854775808 ≤ p.2 ∧ p.2 ≤ 9223372036854775807 := hbd p.2 (by simp [fAmt])
      clear hbd
      have hbd := hL.hbd q (List.mem_of_getElem? hq)
      have d0 : -9223372036854775808 ≤ q.1 ∧ q.1 ≤ 9223372036854775807 := hbd q.1 (by simp [fAmt])
      have d1 : -9223372036854775808 ≤ q.2 ∧ q.2 ≤ 9223372036854775807 := hbd q.2 (by simp [fAmt])
      clear hbd
      have z0 := cell_lt e0
      have z1 := cell_lt f0
      have HC := Lib.hid (fun W => compare_impl p.1 p.2 q.1 q.2 b0 b1 d0 d1 W)
      have hcm := cmAt_is l k p q hp hq
      rw [← hcm] at HC
      have hno : Hid (¬ cmAt l k < 0 → incB l = false) := Lib.hid (fun h => incB_no l k hlt h)
      have hnx : Hid (cmAt l k < 0 → ∀ j, j < k + 1 → cmAt l j < 0) := Lib.hid (fun h j hj => by
        by_cases e : j = k
        · exact e ▸ h
        · exact hall.out j (by omega))
      generalize okk p.1 p.2 q.1 q.2 = B at *
      generalize cmAt l k = C at *
      clear hall hL2 hp hq b0 b1 d0 d1 hcm
      have i1 : (0 : Int) ≤ (k : Int) := by omega
      have i2 : (k : Int) < (l.length : Int) := by omega
      have i3 : (k : Int) + 1 < (l.length : Int) := by omega
      have i4 : (0 : Int) ≤ (k : Int) + 1 := by omega
      have i5 : ((k : Int) + 1).toNat = k + 1 := by omega
      have wq : IntKind.i64.wrap ((k : Int) + 1) = ((k + 1 : Nat) : Int) := by rw [IntWalk.i64_in _ (by omega)]; omega
      have hS := Lib.hid (fun (W : World) (h : Below wr.heap.size wr W) => (⟨h, (h.cell z0).trans e0, (h.cell (p := ⟨(a.add (k * 2)).block, (a.add (k * 2)).off + 1, none⟩) z0).trans e1, (h.cell z1).trans f0, (h.cell (p := ⟨(a.add ((k + 1) * 2)).block, (a.add ((k + 1) * 2)).off + 1, none⟩) z1).trans f1⟩ : Below wr.heap.size wr W ∧ W.cell? (a.add (k * 2)) = some (.int .i64 p.1) ∧ W.cell? ⟨(a.add (k * 2)).block, (a.add (k * 2)).off + 1, none⟩ = some (.int .i64 p.2) ∧ W.cell? (a.add ((k + 1) * 2)) = some (.int .i64 q.1) ∧ W.cell? ⟨(a.add ((k + 1) * 2)).block, (a.add ((k + 1) * 2)).off + 1, none⟩ = some (.int .i64 q.2)))
      go_upto_region 4 with fail
      go_region_held3 (fun W => Below wr.heap.size wr W ∧ W.cell? (a.add (k * 2)) = some (.int .i64 p.1) ∧ W.cell? ⟨(a.add (k * 2)).block, (a.add (k * 2)).off + 1, none⟩ = some (.int .i64 p.2) ∧ W.cell? (a.add ((k + 1) * 2)) = some (.int .i64 q.1) ∧ W.cell? ⟨(a.add ((k + 1) * 2)).block, (a.add ((k + 1) * 2)).off + 1, none⟩ = some (.int .i64 q.2)) ((refine hS.out _ ?_; first | with_reducible assumption | ((repeat (first | with_reducible exact Below.refl _ _ | with_reducible assumption | with_reducible refine balloc ?_ _ | with_reducible refine bdrew ?_ | with_reducible refine below_drewN ?_ _ | with_reducible refine bset ?_ ?_ _ | with_reducible exact Nat.le_refl _ | with_reducible refine bsize ?_ | (dsimp only; refine Nat.le_trans ?_ (Nat.le_add_right _ _)) | with_reducible refine Nat.le_trans ?_ (Nat.le_add_right _ _) | (with_reducible refine bstep ?_ (by assumption)))); done))) (first | (go_at_call 116; refine (HC.out _).mono ?_; rintro e w3 ⟨rfl, hb3⟩; (have f0 := bstep (by first | with_reducible assumption | ((repeat (first | with_reducible exact Below.refl _ _ | with_reducible assumption | with_reducible refine balloc ?_ _ | with_reducible refine bdrew ?_ | with_reducible refine below_drewN ?_ _ | with_reducible refine bset ?_ ?_ _ | with_reducible exact Nat.le_refl _ | with_reducible refine bsize ?_ | (dsimp only; refine Nat.le_trans ?_ (Nat.le_add_right _ _)) | with_reducible refine Nat.le_trans ?_ (Nat.le_add_right _ _) | (with_reducible refine bstep ?_ (by assumption)))); done) : Below wr.heap.size wr _) hb3); (have f1 := hS.out _ f0); go_split_ands))
      by_cases hC : C < 0
      · have hnx := Lib.hid (hnx.out hC)
        clear hno wq
        go_wp2
        go_roundw
        case rel => exact ⟨k + 1, Or.inl (by omega), by go_num, hnx, by (repeat (first | with_reducible exact Below.refl _ _ | with_reducible assumption | with_reducible refine balloc ?_ _ | with_reducible refine bdrew ?_ | with_reducible refine below_drewN ?_ _ | with_reducible refine bset ?_ ?_ _ | with_reducible exact Nat.le_refl _ | with_reducible refine bsize ?_ | (dsimp only; refine Nat.le_trans ?_ (Nat.le_add_right _ _)) | with_reducible refine Nat.le_trans ?_ (Nat.le_add_right _ _) | (with_reducible refine bstep ?_ (by assumption))))⟩
        case measure => simp [intOf]; omega
      · have hno := Lib.hid (hno.out (by omega))
        clear hnx wq
        go_wp2
        go_ret
        refine ⟨by rw [hno.out]; rfl, ?_⟩
        (repeat (first | with_reducible exact Below.refl _ _ | with_reducible assumption | with_reducible refine balloc ?_ _ | with_reducible refine bdrew ?_ | with_reducible refine below_drewN ?_ _ | with_reducible refine bset ?_ ?_ _ | with_reducible exact Nat.le_refl _ | with_reducible refine bsize ?_ | (dsimp only; refine Nat.le_trans ?_ (Nat.le_add_right _ _)) | with_reducible refine Nat.le_trans ?_ (Nat.le_add_right _ _) | (with_reducible refine bstep ?_ (by assumption))))
    · have hyes : Hid (incB l = true) := Lib.hid (incB_yes l (fun i hi => hall.out i (by omega)))
      clear hall
      go_wp2
      go_ret
      exact ⟨by rw [hyes.out]; rfl, hbel⟩
theorem incr_nil (w : World) : Calls Try.prog 125 #[.slice none 0 0] w fun e w' => e = .returned (.bool true) ∧ Below w.heap.size w w' := by
  go_enter Try.func125, Try.ntmps125
  go_wp2
  go_loopw [9] (fun i wr => i = .int .i64 0 ∧ wr = w) (fun _ _ => 0)
  case atStart => exact ⟨rfl, rfl⟩
  case round =>
    obtain ⟨rfl, rfl⟩ := hrel
    go_wp2
    go_ret
    exact ⟨rfl, Below.refl _ _⟩
theorem incr_row (v : Value) (l : List (Int × Int)) (w : World) (h : RowG 2 fAmt w v l) :
    Calls Try.prog 125 #[v] w fun e w' => e = .returned (.bool (incB l)) ∧ Below w.heap.size w w' := by
  rcases h with ⟨rfl, rfl⟩ | ⟨a, cap, rfl, hL⟩
  · exact incr_nil w
  · exact incr_some a cap l w hL
end Go.Proofs.Ytiafmojmanhdoaa

/- The laws' helper that compares two lists of amts. -/
namespace Go.Proofs.Ytiafmojmanhdoaa
open Go.ChangeShapes Go.WideShapes Go.ChangeAt Go.RowKit Go.Joins
set_option maxRecDepth 100000
set_option linter.unusedVariables false
set_option linter.unusedSimpArgs false

end Go.Proofs.Ytiafmojmanhdoaa

/- The laws' helpers on an answer that is a list of amts: two without elements are equal; one is written, and read again. -/
namespace Go.Proofs.Ytiafmojmanhdoaa
open Go.ChangeShapes Go.WideShapes Go.ChangeAt Go.RowKit Go.Joins
set_option maxRecDepth 100000
set_option linter.unusedVariables false
set_option linter.unusedSimpArgs false

end Go.Proofs.Ytiafmojmanhdoaa

/- The laws' helpers on a list of amts, told of whatever row. -/
namespace Go.Proofs.Ytiafmojmanhdoaa
open Go.ChangeShapes Go.WideShapes Go.ChangeAt Go.RowKit Go.Joins
set_option maxRecDepth 100000
set_option linter.unusedVariables false
set_option linter.unusedSimpArgs false

end Go.Proofs.Ytiafmojmanhdoaa

/- The laws' helpers on roads: the copy, the comparison, the size. -/
namespace Go.Proofs.Ytiafmojmanhdoaa
open Go.ChangeShapes Go.WideShapes Go.ChangeAt Go.RowKit Go.Joins
set_option maxRecDepth 100000
set_option linter.unusedVariables false
set_option linter.unusedSimpArgs false


/-- The ending of a road's copy. -/
def EndRoad (n d : Int) (l : List (Int × Int)) (w : World) (en : Ending) (w' : World) : Prop :=
  ∃ g, en = .returned (.agg #[.int .i64 n, .int .i64 d, .slice (some ⟨g, 0, none⟩) l.length l.length]) ∧
    w'.ownsRow w.heap.size 101 2 (.slice (some ⟨g, 0, none⟩) l.length l.length) l.length (cellsG fAmt l) ∧ Below w.heap.size w w'
/-- A road in a block. -/
def RdAt (g : Nat) (n d : Int) (v : Value) (W : World) : Prop := W.cell? ⟨g, 0, none⟩ = some (.int .i64 n) ∧ W.cell? ⟨g, 1, none⟩ = some (.int .i64 d) ∧ W.cell? ⟨g, 2, none⟩ = some v ∧ g < W.heap.size
theorem RdAt.later {g : Nat} {n d : Int} {v : Value} {W W' : World} (h : RdAt g n d v W) (hb : Below W.heap.size W W') : RdAt g n d v W' :=
  ⟨keepa hb h.2.2.2 h.1, keepa hb h.2.2.2 h.2.1, keepa hb h.2.2.2 h.2.2.1, Nat.lt_of_lt_of_le h.2.2.2 hb.size⟩
theorem RdAt.new (W : World) (n d : Int) (v : Value) (t : TypeId) : RdAt W.heap.size n d v (W.alloc (.cells #[.int .i64 n, .int .i64 d, v] t)) :=
  ⟨by simp [go_sem], by simp [go_sem], by simp [go_sem], by simp⟩
theorem RdAt.alloc {g : Nat} {n d : Int} {v : Value} {W : World} (h : RdAt g n d v W) (o : Obj) : RdAt g n d v (W.alloc o) := h.later ((Below.refl _ _).alloc (Nat.le_refl _) o)
theorem RdAt.drew {g : Nat} {n d : Int} {v : Value} {W : World} (h : RdAt g n d v W) : RdAt g n d v W.drew := h.later ((Below.refl _ _).drew)
section
variable {H : Type} {enc : TypeId × Value → H} {W : World} {base : Nat} {spare : Nat → Bool} {held : Bool} 
end
end Go.Proofs.Ytiafmojmanhdoaa

/- Roads: the start and the wells, of the program. -/
namespace Go.Proofs.Ytiafmojmanhdoaa
open Go.ChangeShapes Go.WideShapes Go.ChangeAt Go.RowKit Go.Joins
set_option maxRecDepth 100000
set_option linter.unusedVariables false
set_option linter.unusedSimpArgs false


theorem whole_bi (k : Int) (w : World) :
    Calls Try.prog 127 #[.int .i64 k] w fun e w' => e = .returned (.agg #[.int .i64 k, .int .i64 1]) ∧ Below w.heap.size w w' := by
  go_enter Try.func127, Try.ntmps127
  go_wp2
  exact bodyPost_ret (v := .agg #[.int .i64 k, .int .i64 1]) (by simp [results, Try.results127, go_sem]) rfl ⟨rfl, by (repeat (first | with_reducible exact Below.refl _ _ | with_reducible assumption | with_reducible refine balloc ?_ _ | with_reducible refine bdrew ?_ | with_reducible refine below_drewN ?_ _ | with_reducible refine bset ?_ ?_ _ | with_reducible exact Nat.le_refl _ | with_reducible refine bsize ?_ | (dsimp only; refine Nat.le_trans ?_ (Nat.le_add_right _ _)) | with_reducible refine Nat.le_trans ?_ (Nat.le_add_right _ _) | (with_reducible refine bstep ?_ (by assumption))))⟩
theorem lies_one {W : World} {g : Nat} {x y : Int} (h0 : W.cell? ⟨g, 0, none⟩ = some (.int .i64 x)) (h1 : W.cell? ⟨g, 1, none⟩ = some (.int .i64 y)) (bx : -9223372036854775808 ≤ x ∧ x ≤ 9223372036854775807) (bz : -9223372036854775808 ≤ y ∧ y ≤ 9223372036854775807) : LiesG 2 fAmt W ⟨g, 0, none⟩ 1 [(x, y)] := by
  refine ⟨by simp, by simp, fun i p hp j z hz => ?_, fun p hp z hz => ?_⟩
  · have hi : i = 0 := by
      rcases i with _ | i
      · rfl
      · simp at hp
    subst hi
    simp at hp
    subst hp
    rcases j with _ | _ | j
    · simp [fAmt] at hz; subst hz; simpa [Addr.add] using h0
    · simp [fAmt] at hz; subst hz; simpa [Addr.add] using h1
    · simp [fAmt] at hz
  · simp at hp
    subst hp
    simp [fAmt] at hz
    rcases hz with rfl | rfl
    · exact bx
    · exact bz
set_option maxHeartbeats 3200000 in
theorem saw_impl (n d : Int) (v : Value) (l : List (Int × Int)) (w : World) (h : RowG 2 fAmt w v l) (hn : l.length ≤ 1000000) :
    Calls Try.prog 126 #[.agg #[.int .i64 n, .int .i64 d, v]] w (EndL 101 2 fAmt ((0, 1) :: l) w) := by
  have HC := Lib.hid (fun W g p (hB : Below w.heap.size w W) q0 q1 (p0 : W.cell? ⟨p, 0, none⟩ = some (.int .i64 0)) (p1 : W.cell? ⟨p, 1, none⟩ = some (.int .i64 1)) => catA_two g (.slice (some ⟨p, 0, none⟩) 1 1) v [(0, 1)] l W q0 q1
    (Or.inr ⟨_, _, rfl, lies_one p0 p1 (by decide) (by decide)⟩) (rowG_below h hB) (by simp; omega))
  obtain ⟨a0, c0, hv0, hl1, hl2⟩ := row_shape h
  subst hv0
  clear h
  have HW := Lib.hid (fun W => whole_bi 0 W)
  go_enter Try.func126, Try.ntmps126
  go_upto_region 1 with fail
  have hS := Lib.hid (fun (W : World) (h : Below (w.heap.size + 1) (w.alloc (.cells #[.int .i64 n, .int .i64 d, .slice a0 l.length c0] 104)) W) => trivial)
  refine wp_region_noPanic ?_
  refine wp_region_held_drew (S := (fun W => Below w.heap.size w W ∧ w.heap.size < W.heap.size ∧ W.cell? ⟨w.heap.size, 2, none⟩ = some (.slice a0 l.length c0))) (by kernel_rfl) ?_ (fun hHeld0 => ?_)
  · (try dsimp only); (go_split_ands; (repeat' with_reducible apply And.intro) <;> first | with_reducible assumption | ((repeat (first | with_reducible exact Below.refl _ _ | with_reducible assumption | with_reducible refine balloc ?_ _ | with_reducible refine bdrew ?_ | with_reducible refine below_drewN ?_ _ | with_reducible refine bset ?_ ?_ _ | with_reducible exact Nat.le_refl _ | with_reducible refine bsize ?_ | (dsimp only; refine Nat.le_trans ?_ (Nat.le_add_right _ _)) | with_reducible refine Nat.le_trans ?_ (Nat.le_add_right _ _) | (with_reducible refine bstep ?_ (by assumption)))); done) | (simp [go_sem]; done) | (simp [go_sem, *]; done) | (simp; omega) | go_keep)
  (refine wpAnyH_take (i := 2) (oi := { dst := some 5, op := Op.fieldAddr 104 (Operand.tmp 1) 1, type := 0, pos := "l6_well.go:88", after := #[], guard := none }) (v := ?_) rfl (by kernel_rfl) (by kernel_rfl) (by kernel_rfl) (fun _ _ _ h => h) (Or.inl ⟨by rfl, ?_⟩) (by assumption) ?_; rotate_left; (focus (intro w hSw; (try dsimp only at hSw); go_simp; try with_reducible rfl)); (try simp only [Act.put, List.setIfInBounds_toArray, List.set_cons_zero, List.set_cons_succ]))
  (refine wpAnyH_take (i := 3) (oi := { dst := some 6, op := Op.load 102 (Operand.tmp 5), type := 102, pos := "l6_well.go:88", after := #[{ on := 2, ground := Ground.data }], guard := none }) (v := ?_) rfl (by kernel_rfl) (by kernel_rfl) (by kernel_rfl) (fun _ _ _ h => h) (Or.inl ⟨by rfl, ?_⟩) (by assumption) ?_; rotate_left; (focus (intro w hSw; (try dsimp only at hSw); go_simp; try with_reducible rfl)); (try simp only [Act.put, List.setIfInBounds_toArray, List.set_cons_zero, List.set_cons_succ]))
  (refine wpAnyH_ready (rs := [0]) (by kernel_rfl) (by simp) ?_; refine AllReadyH.cons (o := { dst := some 3, op := Op.call { callee := Callee.value (Operand.func 127), args := #[Operand.const (Value.int IntKind.i64 0)], argTypes := #[3] }, type := 101, pos := "l6_well.go:88", after := #[], guard := none }) rfl (fun K hK => ?_) AllReadyH.nil; go_simp; (first | (go_at_call 127; refine (HW.out _).mono ?_; rintro e w1 ⟨rfl, hb1⟩; go_split_ands; (have f1 : Below w.heap.size w w1 := bstep (by first | with_reducible assumption | ((repeat (first | with_reducible exact Below.refl _ _ | with_reducible assumption | with_reducible refine balloc ?_ _ | with_reducible refine bdrew ?_ | with_reducible refine below_drewN ?_ _ | with_reducible refine bset ?_ ?_ _ | with_reducible exact Nat.le_refl _ | with_reducible refine bsize ?_ | (dsimp only; refine Nat.le_trans ?_ (Nat.le_add_right _ _)) | with_reducible refine Nat.le_trans ?_ (Nat.le_add_right _ _) | (with_reducible refine bstep ?_ (by assumption)))); done)) hb1); (have f2 := Nat.lt_of_lt_of_le (show w.heap.size < _ by with_reducible assumption) hb1.size); (have f3 : w1.cell? ⟨w.heap.size, 2, none⟩ = some (.slice a0 l.length c0) := keepa hb1 (by with_reducible assumption) (by with_reducible assumption))) | (go_at_call 128; refine (HC.out _ (w1.heap.size + 1) w1.heap.size (by first | with_reducible assumption | ((repeat (first | with_reducible exact Below.refl _ _ | with_reducible assumption | with_reducible refine balloc ?_ _ | with_reducible refine bdrew ?_ | with_reducible refine below_drewN ?_ _ | with_reducible refine bset ?_ ?_ _ | with_reducible exact Nat.le_refl _ | with_reducible refine bsize ?_ | (dsimp only; refine Nat.le_trans ?_ (Nat.le_add_right _ _)) | with_reducible refine Nat.le_trans ?_ (Nat.le_add_right _ _) | (with_reducible refine bstep ?_ (by assumption)))); done)) (by simp [go_sem]) (by simp [go_sem]) (by simp [go_sem]) (by simp [go_sem])).mono ?_; rintro e w5 ⟨v5, rfl, hown, hb5⟩; go_split_ands; (have f5 : Below w.heap.size w w5 := bstep (by first | with_reducible assumption | ((repeat (first | with_reducible exact Below.refl _ _ | with_reducible assumption | with_reducible refine balloc ?_ _ | with_reducible refine bdrew ?_ | with_reducible refine below_drewN ?_ _ | with_reducible refine bset ?_ ?_ _ | with_reducible exact Nat.le_refl _ | with_reducible refine bsize ?_ | (dsimp only; refine Nat.le_trans ?_ (Nat.le_add_right _ _)) | with_reducible refine Nat.le_trans ?_ (Nat.le_add_right _ _) | (with_reducible refine bstep ?_ (by assumption)))); done)) hb5); (have f6 := Nat.lt_of_lt_of_le f2 (Nat.le_trans (by simp; omega) hb5.size)); (have f7 : w5.cell? ⟨w.heap.size, 2, none⟩ = some (.slice a0 l.length c0) := keepa hb5 (by simp; omega) (by simp [go_sem, f3, f2])))); (first | refine hK.out _ _ ?_ (fun hHeld1 => ?_) | (go_wp2_with fail; refine hK.out _ _ ?_ (fun hHeld1 => ?_))); (focus ((try dsimp only); (go_split_ands; (repeat' with_reducible apply And.intro) <;> first | with_reducible assumption | ((repeat (first | with_reducible exact Below.refl _ _ | with_reducible assumption | with_reducible refine balloc ?_ _ | with_reducible refine bdrew ?_ | with_reducible refine below_drewN ?_ _ | with_reducible refine bset ?_ ?_ _ | with_reducible exact Nat.le_refl _ | with_reducible refine bsize ?_ | (dsimp only; refine Nat.le_trans ?_ (Nat.le_add_right _ _)) | with_reducible refine Nat.le_trans ?_ (Nat.le_add_right _ _) | (with_reducible refine bstep ?_ (by assumption)))); done) | (simp [go_sem]; done) | (simp [go_sem, *]; done) | (simp; omega) | go_keep))); clear hK K; (try clear hHeld0); (try simp only [Act.put, List.setIfInBounds_toArray, List.set_cons_zero, List.set_cons_succ]))
  (refine wpAnyH_ready (rs := [1]) (by kernel_rfl) (by simp) ?_; refine AllReadyH.cons (o := { dst := some 4, op := Op.buildSlice 102 1 #[(0, Operand.tmp 3)], type := 102, pos := "l6_well.go:88", after := #[{ on := 0, ground := Ground.data }], guard := none }) rfl (fun K hK => ?_) AllReadyH.nil; go_simp; skip; (first | refine hK.out _ _ ?_ (fun hHeld2 => ?_) | (go_wp2_with fail; refine hK.out _ _ ?_ (fun hHeld2 => ?_))); (focus ((try dsimp only); (go_split_ands; (repeat' with_reducible apply And.intro) <;> first | with_reducible assumption | ((repeat (first | with_reducible exact Below.refl _ _ | with_reducible assumption | with_reducible refine balloc ?_ _ | with_reducible refine bdrew ?_ | with_reducible refine below_drewN ?_ _ | with_reducible refine bset ?_ ?_ _ | with_reducible exact Nat.le_refl _ | with_reducible refine bsize ?_ | (dsimp only; refine Nat.le_trans ?_ (Nat.le_add_right _ _)) | with_reducible refine Nat.le_trans ?_ (Nat.le_add_right _ _) | (with_reducible refine bstep ?_ (by assumption)))); done) | (simp [go_sem]; done) | (simp [go_sem, *]; done) | (simp; omega) | go_keep))); clear hK K; (try clear hHeld1); (try simp only [Act.put, List.setIfInBounds_toArray, List.set_cons_zero, List.set_cons_succ]))
  (refine wpAnyH_ready (rs := [4]) (by kernel_rfl) (by simp) ?_; refine AllReadyH.cons (o := { dst := some 7, op := Op.buildSlice 139 2 #[(0, Operand.tmp 4), (1, Operand.tmp 6)], type := 139, pos := "l6_well.go:88", after := #[{ on := 1, ground := Ground.data }, { on := 3, ground := Ground.data }], guard := none }) rfl (fun K hK => ?_) AllReadyH.nil; go_simp; skip; (first | refine hK.out _ _ ?_ (fun hHeld3 => ?_) | (go_wp2_with fail; refine hK.out _ _ ?_ (fun hHeld3 => ?_))); (focus ((try dsimp only); (go_split_ands; (repeat' with_reducible apply And.intro) <;> first | with_reducible assumption | ((repeat (first | with_reducible exact Below.refl _ _ | with_reducible assumption | with_reducible refine balloc ?_ _ | with_reducible refine bdrew ?_ | with_reducible refine below_drewN ?_ _ | with_reducible refine bset ?_ ?_ _ | with_reducible exact Nat.le_refl _ | with_reducible refine bsize ?_ | (dsimp only; refine Nat.le_trans ?_ (Nat.le_add_right _ _)) | with_reducible refine Nat.le_trans ?_ (Nat.le_add_right _ _) | (with_reducible refine bstep ?_ (by assumption)))); done) | (simp [go_sem]; done) | (simp [go_sem, *]; done) | (simp; omega) | go_keep))); clear hK K; (try clear hHeld2); (try simp only [Act.put, List.setIfInBounds_toArray, List.set_cons_zero, List.set_cons_succ]))
  (refine wpAnyH_ready (rs := [5]) (by kernel_rfl) (by simp) ?_; refine AllReadyH.cons (o := { dst := some 8, op := Op.call { callee := Callee.value (Operand.func 128), args := #[Operand.tmp 7], argTypes := #[139] }, type := 102, pos := "l6_well.go:88", after := #[{ on := 4, ground := Ground.data }, { on := 0, ground := Ground.chain }], guard := none }) rfl (fun K hK => ?_) AllReadyH.nil; go_simp; (first | (go_at_call 127; refine (HW.out _).mono ?_; rintro e w1 ⟨rfl, hb1⟩; go_split_ands; (have f1 : Below w.heap.size w w1 := bstep (by first | with_reducible assumption | ((repeat (first | with_reducible exact Below.refl _ _ | with_reducible assumption | with_reducible refine balloc ?_ _ | with_reducible refine bdrew ?_ | with_reducible refine below_drewN ?_ _ | with_reducible refine bset ?_ ?_ _ | with_reducible exact Nat.le_refl _ | with_reducible refine bsize ?_ | (dsimp only; refine Nat.le_trans ?_ (Nat.le_add_right _ _)) | with_reducible refine Nat.le_trans ?_ (Nat.le_add_right _ _) | (with_reducible refine bstep ?_ (by assumption)))); done)) hb1); (have f2 := Nat.lt_of_lt_of_le (show w.heap.size < _ by with_reducible assumption) hb1.size); (have f3 : w1.cell? ⟨w.heap.size, 2, none⟩ = some (.slice a0 l.length c0) := keepa hb1 (by with_reducible assumption) (by with_reducible assumption))) | (go_at_call 128; refine (HC.out _ (w1.heap.size + 1) w1.heap.size (by first | with_reducible assumption | ((repeat (first | with_reducible exact Below.refl _ _ | with_reducible assumption | with_reducible refine balloc ?_ _ | with_reducible refine bdrew ?_ | with_reducible refine below_drewN ?_ _ | with_reducible refine bset ?_ ?_ _ | with_reducible exact Nat.le_refl _ | with_reducible refine bsize ?_ | (dsimp only; refine Nat.le_trans ?_ (Nat.le_add_right _ _)) | with_reducible refine Nat.le_trans ?_ (Nat.le_add_right _ _) | (with_reducible refine bstep ?_ (by assumption)))); done)) (by simp [go_sem]) (by simp [go_sem]) (by simp [go_sem]) (by simp [go_sem])).mono ?_; rintro e w5 ⟨v5, rfl, hown, hb5⟩; go_split_ands; (have f5 : Below w.heap.size w w5 := bstep (by first | with_reducible assumption | ((repeat (first | with_reducible exact Below.refl _ _ | with_reducible assumption | with_reducible refine balloc ?_ _ | with_reducible refine bdrew ?_ | with_reducible refine below_drewN ?_ _ | with_reducible refine bset ?_ ?_ _ | with_reducible exact Nat.le_refl _ | with_reducible refine bsize ?_ | (dsimp only; refine Nat.le_trans ?_ (Nat.le_add_right _ _)) | with_reducible refine Nat.le_trans ?_ (Nat.le_add_right _ _) | (with_reducible refine bstep ?_ (by assumption)))); done)) hb5); (have f6 := Nat.lt_of_lt_of_le f2 (Nat.le_trans (by simp; omega) hb5.size)); (have f7 : w5.cell? ⟨w.heap.size, 2, none⟩ = some (.slice a0 l.length c0) := keepa hb5 (by simp; omega) (by simp [go_sem, f3, f2])))); (first | refine hK.out _ _ ?_ (fun hHeld4 => ?_) | (go_wp2_with fail; refine hK.out _ _ ?_ (fun hHeld4 => ?_))); (focus ((try dsimp only); (go_split_ands; (repeat' with_reducible apply And.intro) <;> first | with_reducible assumption | ((repeat (first | with_reducible exact Below.refl _ _ | with_reducible assumption | with_reducible refine balloc ?_ _ | with_reducible refine bdrew ?_ | with_reducible refine below_drewN ?_ _ | with_reducible refine bset ?_ ?_ _ | with_reducible exact Nat.le_refl _ | with_reducible refine bsize ?_ | (dsimp only; refine Nat.le_trans ?_ (Nat.le_add_right _ _)) | with_reducible refine Nat.le_trans ?_ (Nat.le_add_right _ _) | (with_reducible refine bstep ?_ (by assumption)))); done) | (simp [go_sem]; done) | (simp [go_sem, *]; done) | (simp; omega) | go_keep))); clear hK K; (try clear hHeld3); (try simp only [Act.put, List.setIfInBounds_toArray, List.set_cons_zero, List.set_cons_succ]))
  (refine wpAnyH_take (i := 6) (oi := { dst := some 2, op := Op.assign (Operand.tmp 8), type := 102, pos := "l6_well.go:88", after := #[{ on := 5, ground := Ground.data }, { on := 5, ground := Ground.chain }, { on := 0, ground := Ground.phase }, { on := 1, ground := Ground.phase }, { on := 2, ground := Ground.phase }, { on := 3, ground := Ground.phase }, { on := 4, ground := Ground.phase }, { on := 5, ground := Ground.phase }], guard := none }) (v := ?_) rfl (by kernel_rfl) (by kernel_rfl) (by kernel_rfl) (fun _ _ _ h => h) (Or.inl ⟨by rfl, ?_⟩) (by assumption) ?_; rotate_left; (focus (intro w hSw; (try dsimp only at hSw); go_simp; try with_reducible rfl)); (try simp only [Act.put, List.setIfInBounds_toArray, List.set_cons_zero, List.set_cons_succ]))
  refine wpAnyH_done (by kernel_rfl) ?_ _
  (try refine NoPanic.normal ?_)
  go_wp2
  go_ret
  exact ⟨_, rfl, own_mono hown (by simp; have := f1.size; omega), by first | with_reducible assumption | ((repeat (first | with_reducible exact Below.refl _ _ | with_reducible assumption | with_reducible refine balloc ?_ _ | with_reducible refine bdrew ?_ | with_reducible refine below_drewN ?_ _ | with_reducible refine bset ?_ ?_ _ | with_reducible exact Nat.le_refl _ | with_reducible refine bsize ?_ | (dsimp only; refine Nat.le_trans ?_ (Nat.le_add_right _ _)) | with_reducible refine Nat.le_trans ?_ (Nat.le_add_right _ _) | (with_reducible refine bstep ?_ (by assumption)))); done)⟩

theorem later_two {W w6 : World} {x y : Value} {t : TypeId} (h : Below (W.alloc (.cells #[x, y] t)).heap.size (W.alloc (.cells #[x, y] t)) w6) : w6.cell? ⟨W.heap.size, 0, none⟩ = some x ∧ w6.cell? ⟨W.heap.size, 1, none⟩ = some y :=
  ⟨(h.cell (p := ⟨W.heap.size, 0, none⟩) (by simp)).trans (by simp [go_sem]), (h.cell (p := ⟨W.heap.size, 1, none⟩) (by simp)).trans (by simp [go_sem])⟩
theorem later_two_d {W w6 : World} {x y : Value} {t : TypeId} (h : Below (W.alloc (.cells #[x, y] t)).drew.heap.size (W.alloc (.cells #[x, y] t)).drew w6) : w6.cell? ⟨W.heap.size, 0, none⟩ = some x ∧ w6.cell? ⟨W.heap.size, 1, none⟩ = some y :=
  ⟨(h.cell (p := ⟨W.heap.size, 0, none⟩) (by simp)).trans (by simp [go_sem]), (h.cell (p := ⟨W.heap.size, 1, none⟩) (by simp)).trans (by simp [go_sem])⟩
def rdB (n d : Int) (l : List (Int × Int)) : Bool := rpB n d && (lsrB 16 l && (decide (l.length = 0) || incB ((0, 1) :: (l ++ [(n, d)]))))
theorem lsr_all {M : Int} {l : List (Int × Int)} (h : lsrB M l = true) : (l.length : Int) ≤ M ∧ ∀ p ∈ l, rpB p.1 p.2 = true := by
  unfold lsrB at h
  simp at h
  exact ⟨h.1, fun p hp => h.2 p.1 p.2 hp⟩
set_option maxHeartbeats 6400000 in
theorem isRoad_impl (n d : Int) (bn : -9223372036854775808 ≤ n ∧ n ≤ 9223372036854775807) (bd : -9223372036854775808 ≤ d ∧ d ≤ 9223372036854775807) (v : Value) (l : List (Int × Int)) (w : World) (h : RowG 2 fAmt w v l) :
    Calls Try.prog 112 #[.agg #[.int .i64 n, .int .i64 d, v]] w fun e w' => e = .returned (.bool (rdB n d l)) ∧ Below w.heap.size w w' := by
  obtain ⟨i0, hi, hz0, hz1, hz2⟩ := info_parts infoAmt
  have HP := Lib.hid (fun W => rp_impl n d bn bd W)
  have HLs := Lib.hid (fun W (hB : Below w.heap.size w W) => lsr_is 16 v l W (rowG_below h hB))
  have hbd : ∀ p ∈ l, ∀ y ∈ fAmt p, -9223372036854775808 ≤ y ∧ y ≤ 9223372036854775807 := by
    rcases h with ⟨rfl, rfl⟩ | ⟨a, cap, rfl, hL⟩
    · simp
    · exact hL.hbd
  obtain ⟨a0, c0, hv0, hl1, hl2⟩ := row_shape h
  cases h1 : rpB n d
  · have e : rdB n d l = false := by simp [rdB, h1]
    rw [e]; clear e
    rw [h1] at HP
    subst hv0
    clear h h1
    go_enter Try.func112, Try.ntmps112
    go_wp2_with fail
    refine (HP.out _).mono ?_
    rintro e w1 ⟨rfl, hb1⟩
    go_wp2
    go_ret
    refine ⟨rfl, ?_⟩
    (repeat (first | with_reducible exact Below.refl _ _ | with_reducible assumption | with_reducible refine balloc ?_ _ | with_reducible refine bdrew ?_ | with_reducible refine below_drewN ?_ _ | with_reducible refine bset ?_ ?_ _ | with_reducible exact Nat.le_refl _ | with_reducible refine bsize ?_ | (dsimp only; refine Nat.le_trans ?_ (Nat.le_add_right _ _)) | with_reducible refine Nat.le_trans ?_ (Nat.le_add_right _ _) | (with_reducible refine bstep ?_ (by assumption))))
  rw [h1] at HP
  cases h2 : lsrB 16 l
  · have e : rdB n d l = false := by simp [rdB, h2]
    rw [e]; clear e
    rw [h2] at HLs
    subst hv0
    clear h h1 h2
    go_enter Try.func112, Try.ntmps112
    go_wp2_with fail
    refine (HP.out _).mono ?_
    rintro e w1 ⟨rfl, hb1⟩
    have A1 := (RdAt.new w n d (.slice a0 l.length c0) 104).later hb1
    obtain ⟨x0, x1, x2, xz⟩ := A1
    have ha1 : Below w.heap.size w w1 := by (repeat (first | with_reducible exact Below.refl _ _ | with_reducible assumption | with_reducible refine balloc ?_ _ | with_reducible refine bdrew ?_ | with_reducible refine below_drewN ?_ _ | with_reducible refine bset ?_ ?_ _ | with_reducible exact Nat.le_refl _ | with_reducible refine bsize ?_ | (dsimp only; refine Nat.le_trans ?_ (Nat.le_add_right _ _)) | with_reducible refine Nat.le_trans ?_ (Nat.le_add_right _ _) | (with_reducible refine bstep ?_ (by assumption))))
    go_wp2_with fail
    refine (HLs.out _ ha1).mono ?_
    rintro e w2 ⟨rfl, hb2⟩
    go_wp2
    go_ret
    refine ⟨rfl, ?_⟩
    exact bstep ha1 hb2
  have hl16 := lsr_all h2
  rw [h2] at HLs
  by_cases h0 : l.length = 0
  · have e : rdB n d l = true := by simp [rdB, h1, h2, h0]
    rw [e]; clear e
    subst hv0
    clear h h1 h2 hl16
    generalize l.length = m at *
    subst h0
    go_enter Try.func112, Try.ntmps112
    go_wp2_with fail
    refine (HP.out _).mono ?_
    rintro e w1 ⟨rfl, hb1⟩
    have A1 := (RdAt.new w n d (.slice a0 0 c0) 104).later hb1
    have ha1 : Below w.heap.size w w1 := by (repeat (first | with_reducible exact Below.refl _ _ | with_reducible assumption | with_reducible refine balloc ?_ _ | with_reducible refine bdrew ?_ | with_reducible refine below_drewN ?_ _ | with_reducible refine bset ?_ ?_ _ | with_reducible exact Nat.le_refl _ | with_reducible refine bsize ?_ | (dsimp only; refine Nat.le_trans ?_ (Nat.le_add_right _ _)) | with_reducible refine Nat.le_trans ?_ (Nat.le_add_right _ _) | (with_reducible refine bstep ?_ (by assumption))))
    obtain ⟨x0, x1, x2, xz⟩ := id A1
    go_wp2_with fail
    refine (HLs.out _ ha1).mono ?_
    rintro e w2 ⟨rfl, hb2⟩
    have A2 := A1.later hb2
    have ha2 := bstep ha1 hb2
    clear x0 x1 x2 xz A1 hb1 hb2 ha1
    obtain ⟨x0, x1, x2, xz⟩ := id A2
    go_upto_region 3 with fail
    refine wp_region_noPanic ?_
    refine wp_region_held_drew (S := (fun W => Below w.heap.size w W ∧ W.cell? ⟨w.heap.size, 2, none⟩ = some (.slice a0 0 c0))) (by kernel_rfl) ?_ (fun hHeld0 => ?_)
    · (try dsimp only); (go_split_ands; (repeat' with_reducible apply And.intro) <;> first | with_reducible assumption | ((repeat (first | with_reducible exact Below.refl _ _ | with_reducible assumption | with_reducible refine balloc ?_ _ | with_reducible refine bdrew ?_ | with_reducible refine below_drewN ?_ _ | with_reducible refine bset ?_ ?_ _ | with_reducible exact Nat.le_refl _ | with_reducible refine bsize ?_ | (dsimp only; refine Nat.le_trans ?_ (Nat.le_add_right _ _)) | with_reducible refine Nat.le_trans ?_ (Nat.le_add_right _ _) | (with_reducible refine bstep ?_ (by assumption)))); done) | (simp [go_sem]; done) | (simp [go_sem, *]; done) | go_keep)
    (refine wpAnyH_take (i := 0) (oi := { dst := some 13, op := Op.fieldAddr 104 (Operand.tmp 1) 1, type := 0, pos := "l6_well.go:154", after := #[], guard := none }) (v := ?_) rfl (by kernel_rfl) (by kernel_rfl) (by kernel_rfl) (fun _ _ _ h => h) (Or.inl ⟨by rfl, ?_⟩) (by assumption) ?_; rotate_left; (focus (intro w hSw; (try dsimp only at hSw); go_simp; try with_reducible rfl)); (try simp only [Act.put, List.setIfInBounds_toArray, List.set_cons_zero, List.set_cons_succ]))
    (refine wpAnyH_take (i := 1) (oi := { dst := some 14, op := Op.load 102 (Operand.tmp 13), type := 102, pos := "l6_well.go:154", after := #[{ on := 0, ground := Ground.data }], guard := none }) (v := ?_) rfl (by kernel_rfl) (by kernel_rfl) (by kernel_rfl) (fun _ _ _ h => h) (Or.inl ⟨by rfl, ?_⟩) (by assumption) ?_; rotate_left; (focus (intro w hSw; (try dsimp only at hSw); go_simp; try with_reducible rfl)); (try simp only [Act.put, List.setIfInBounds_toArray, List.set_cons_zero, List.set_cons_succ]))
    (refine wpAnyH_take (i := 2) (oi := { dst := some 15, op := Op.call { callee := Callee.builtin Builtin.len, args := #[Operand.tmp 14], argTypes := #[102] }, type := 3, pos := "l6_well.go:154", after := #[{ on := 1, ground := Ground.data }], guard := none }) (v := ?_) rfl (by kernel_rfl) (by kernel_rfl) (by kernel_rfl) (fun _ _ _ h => h) (Or.inl ⟨by rfl, ?_⟩) (by assumption) ?_; rotate_left; (focus (intro w hSw; (try dsimp only at hSw); go_simp; try with_reducible rfl)); (try simp only [Act.put, List.setIfInBounds_toArray, List.set_cons_zero, List.set_cons_succ]))
    (refine wpAnyH_take (i := 3) (oi := { dst := some 16, op := Op.binOp BinOp.eql 3 (Operand.tmp 15) (Operand.const (Value.int IntKind.i64 0)) 3, type := 4, pos := "l6_well.go:154", after := #[{ on := 2, ground := Ground.data }], guard := none }) (v := ?_) rfl (by kernel_rfl) (by kernel_rfl) (by kernel_rfl) (fun _ _ _ h => h) (Or.inl ⟨by rfl, ?_⟩) (by assumption) ?_; rotate_left; (focus (intro w hSw; (try dsimp only at hSw); go_simp; try with_reducible rfl)); (try simp only [Act.put, List.setIfInBounds_toArray, List.set_cons_zero, List.set_cons_succ]))
    (refine wpAnyH_take (i := 4) (oi := { dst := some 17, op := Op.move (Operand.tmp 16), type := 4, pos := "l6_well.go:154", after := #[{ on := 3, ground := Ground.data }], guard := none }) (v := ?_) rfl (by kernel_rfl) (by kernel_rfl) (by kernel_rfl) (fun _ _ _ h => h) (Or.inl ⟨by rfl, ?_⟩) (by assumption) ?_; rotate_left; (focus (intro w hSw; (try dsimp only at hSw); go_simp; try with_reducible rfl)); (try simp only [Act.put, List.setIfInBounds_toArray, List.set_cons_zero, List.set_cons_succ]))
    (refine wpAnyH_take (i := 5) (oi := { dst := some 18, op := Op.load 104 (Operand.tmp 1), type := 104, pos := "l6_well.go:154", after := #[{ on := 4, ground := Ground.guard }], guard := some (4, false) }) (v := undef) rfl (by kernel_rfl) (by kernel_rfl) (by kernel_rfl) (fun _ _ _ h => h) (Or.inr ⟨by rfl, rfl⟩) (by assumption) ?_; (try simp only [Act.put, List.setIfInBounds_toArray, List.set_cons_zero, List.set_cons_succ]))
    (refine wpAnyH_take (i := 7) (oi := { dst := some 20, op := Op.fieldAddr 104 (Operand.tmp 1) 0, type := 0, pos := "l6_well.go:154", after := #[{ on := 4, ground := Ground.guard }], guard := some (4, false) }) (v := undef) rfl (by kernel_rfl) (by kernel_rfl) (by kernel_rfl) (fun _ _ _ h => h) (Or.inr ⟨by rfl, rfl⟩) (by assumption) ?_; (try simp only [Act.put, List.setIfInBounds_toArray, List.set_cons_zero, List.set_cons_succ]))
    (refine wpAnyH_take (i := 8) (oi := { dst := some 21, op := Op.load 101 (Operand.tmp 20), type := 101, pos := "l6_well.go:154", after := #[{ on := 7, ground := Ground.data }, { on := 4, ground := Ground.guard }], guard := some (4, false) }) (v := undef) rfl (by kernel_rfl) (by kernel_rfl) (by kernel_rfl) (fun _ _ _ h => h) (Or.inr ⟨by rfl, rfl⟩) (by assumption) ?_; (try simp only [Act.put, List.setIfInBounds_toArray, List.set_cons_zero, List.set_cons_succ]))
    refine wpAnyH_ready (rs := [6, 9]) (by kernel_rfl) (by simp) (AllReadyH.cons (o := { dst := some 19, op := Op.call { callee := Callee.value (Operand.func 126), args := #[Operand.tmp 18], argTypes := #[104] }, type := 102, pos := "l6_well.go:154", after := #[{ on := 5, ground := Ground.data }, { on := 4, ground := Ground.chain }, { on := 4, ground := Ground.guard }], guard := some (4, false) }) rfl (fun K hK => ?rga2) (AllReadyH.cons (o := { dst := some 22, op := Op.buildSlice 102 1 #[(0, Operand.tmp 21)], type := 102, pos := "l6_well.go:154", after := #[{ on := 8, ground := Ground.data }, { on := 4, ground := Ground.guard }], guard := some (4, false) }) rfl (fun K hK => ?rga1) AllReadyH.nil))
    case' rga2 =>
      (go_simp; skip; (first | refine hK.out _ _ ?_ (fun hHeld1 => ?_) | (go_wp2_with fail; refine hK.out _ _ ?_ (fun hHeld1 => ?_))); (focus ((try dsimp only); (go_split_ands; (repeat' with_reducible apply And.intro) <;> first | with_reducible assumption | ((repeat (first | with_reducible exact Below.refl _ _ | with_reducible assumption | with_reducible refine balloc ?_ _ | with_reducible refine bdrew ?_ | with_reducible refine below_drewN ?_ _ | with_reducible refine bset ?_ ?_ _ | with_reducible exact Nat.le_refl _ | with_reducible refine bsize ?_ | (dsimp only; refine Nat.le_trans ?_ (Nat.le_add_right _ _)) | with_reducible refine Nat.le_trans ?_ (Nat.le_add_right _ _) | (with_reducible refine bstep ?_ (by assumption)))); done) | (simp [go_sem]; done) | (simp [go_sem, *]; done) | go_keep))); clear hK K; (try clear hHeld0); (try simp only [Act.put, List.setIfInBounds_toArray, List.set_cons_zero, List.set_cons_succ]))
      (refine wpAnyH_take (i := 9) (oi := { dst := some 22, op := Op.buildSlice 102 1 #[(0, Operand.tmp 21)], type := 102, pos := "l6_well.go:154", after := #[{ on := 8, ground := Ground.data }, { on := 4, ground := Ground.guard }], guard := some (4, false) }) (v := undef) rfl (by kernel_rfl) (by kernel_rfl) (by kernel_rfl) (fun _ _ _ h => h) (Or.inr ⟨by rfl, rfl⟩) (by assumption) ?_; (try simp only [Act.put, List.setIfInBounds_toArray, List.set_cons_zero, List.set_cons_succ]))
      (refine wpAnyH_take (i := 10) (oi := { dst := some 23, op := Op.call { callee := Callee.builtin Builtin.append, args := #[Operand.tmp 19, Operand.tmp 22], argTypes := #[102, 102] }, type := 102, pos := "l6_well.go:154", after := #[{ on := 6, ground := Ground.data }, { on := 9, ground := Ground.data }, { on := 6, ground := Ground.chain }, { on := 4, ground := Ground.guard }], guard := some (4, false) }) (v := undef) rfl (by kernel_rfl) (by kernel_rfl) (by kernel_rfl) (fun _ _ _ h => h) (Or.inr ⟨by rfl, rfl⟩) (by assumption) ?_; (try simp only [Act.put, List.setIfInBounds_toArray, List.set_cons_zero, List.set_cons_succ]))
      (refine wpAnyH_take (i := 11) (oi := { dst := some 24, op := Op.call { callee := Callee.value (Operand.func 125), args := #[Operand.tmp 23], argTypes := #[102] }, type := 4, pos := "l6_well.go:154", after := #[{ on := 10, ground := Ground.data }, { on := 10, ground := Ground.chain }, { on := 4, ground := Ground.guard }], guard := some (4, false) }) (v := undef) rfl (by kernel_rfl) (by kernel_rfl) (by kernel_rfl) (fun _ _ _ h => h) (Or.inr ⟨by rfl, rfl⟩) (by assumption) ?_; (try simp only [Act.put, List.setIfInBounds_toArray, List.set_cons_zero, List.set_cons_succ]))
      (refine wpAnyH_take (i := 12) (oi := { dst := some 25, op := Op.pick (Operand.tmp 17) (Operand.const (Value.bool true)) (Operand.tmp 24), type := 4, pos := "l6_well.go:154", after := #[{ on := 4, ground := Ground.data }, { on := 11, ground := Ground.data }], guard := none }) (v := ?_) rfl (by kernel_rfl) (by kernel_rfl) (by kernel_rfl) (fun _ _ _ h => h) (Or.inl ⟨by rfl, ?_⟩) (by assumption) ?_; rotate_left; (focus (intro w hSw; (try dsimp only at hSw); go_simp; try with_reducible rfl)); (try simp only [Act.put, List.setIfInBounds_toArray, List.set_cons_zero, List.set_cons_succ]))
      (refine wpAnyH_take (i := 13) (oi := { dst := some 2, op := Op.assign (Operand.tmp 25), type := 4, pos := "l6_well.go:154", after := #[{ on := 12, ground := Ground.data }, { on := 11, ground := Ground.chain }, { on := 0, ground := Ground.phase }, { on := 1, ground := Ground.phase }, { on := 2, ground := Ground.phase }, { on := 3, ground := Ground.phase }, { on := 4, ground := Ground.phase }, { on := 5, ground := Ground.phase }, { on := 6, ground := Ground.phase }, { on := 7, ground := Ground.phase }, { on := 8, ground := Ground.phase }, { on := 9, ground := Ground.phase }, { on := 10, ground := Ground.phase }, { on := 11, ground := Ground.phase }, { on := 12, ground := Ground.phase }], guard := none }) (v := ?_) rfl (by kernel_rfl) (by kernel_rfl) (by kernel_rfl) (fun _ _ _ h => h) (Or.inl ⟨by rfl, ?_⟩) (by assumption) ?_; rotate_left; (focus (intro w hSw; (try dsimp only at hSw); go_simp; try with_reducible rfl)); (try simp only [Act.put, List.setIfInBounds_toArray, List.set_cons_zero, List.set_cons_succ]))
      refine wpAnyH_done (by kernel_rfl) ?_ _
    case' rga1 =>
      (go_simp; skip; (first | refine hK.out _ _ ?_ (fun hHeld1 => ?_) | (go_wp2_with fail; refine hK.out _ _ ?_ (fun hHeld1 => ?_))); (focus ((try dsimp only); (go_split_ands; (repeat' with_reducible apply And.intro) <;> first | with_reducible assumption | ((repeat (first | with_reducible exact Below.refl _ _ | with_reducible assumption | with_reducible refine balloc ?_ _ | with_reducible refine bdrew ?_ | with_reducible refine below_drewN ?_ _ | with_reducible refine bset ?_ ?_ _ | with_reducible exact Nat.le_refl _ | with_reducible refine bsize ?_ | (dsimp only; refine Nat.le_trans ?_ (Nat.le_add_right _ _)) | with_reducible refine Nat.le_trans ?_ (Nat.le_add_right _ _) | (with_reducible refine bstep ?_ (by assumption)))); done) | (simp [go_sem]; done) | (simp [go_sem, *]; done) | go_keep))); clear hK K; (try clear hHeld0); (try simp only [Act.put, List.setIfInBounds_toArray, List.set_cons_zero, List.set_cons_succ]))
      (refine wpAnyH_take (i := 6) (oi := { dst := some 19, op := Op.call { callee := Callee.value (Operand.func 126), args := #[Operand.tmp 18], argTypes := #[104] }, type := 102, pos := "l6_well.go:154", after := #[{ on := 5, ground := Ground.data }, { on := 4, ground := Ground.chain }, { on := 4, ground := Ground.guard }], guard := some (4, false) }) (v := undef) rfl (by kernel_rfl) (by kernel_rfl) (by kernel_rfl) (fun _ _ _ h => h) (Or.inr ⟨by rfl, rfl⟩) (by assumption) ?_; (try simp only [Act.put, List.setIfInBounds_toArray, List.set_cons_zero, List.set_cons_succ]))
      (refine wpAnyH_take (i := 10) (oi := { dst := some 23, op := Op.call { callee := Callee.builtin Builtin.append, args := #[Operand.tmp 19, Operand.tmp 22], argTypes := #[102, 102] }, type := 102, pos := "l6_well.go:154", after := #[{ on := 6, ground := Ground.data }, { on := 9, ground := Ground.data }, { on := 6, ground := Ground.chain }, { on := 4, ground := Ground.guard }], guard := some (4, false) }) (v := undef) rfl (by kernel_rfl) (by kernel_rfl) (by kernel_rfl) (fun _ _ _ h => h) (Or.inr ⟨by rfl, rfl⟩) (by assumption) ?_; (try simp only [Act.put, List.setIfInBounds_toArray, List.set_cons_zero, List.set_cons_succ]))
      (refine wpAnyH_take (i := 11) (oi := { dst := some 24, op := Op.call { callee := Callee.value (Operand.func 125), args := #[Operand.tmp 23], argTypes := #[102] }, type := 4, pos := "l6_well.go:154", after := #[{ on := 10, ground := Ground.data }, { on := 10, ground := Ground.chain }, { on := 4, ground := Ground.guard }], guard := some (4, false) }) (v := undef) rfl (by kernel_rfl) (by kernel_rfl) (by kernel_rfl) (fun _ _ _ h => h) (Or.inr ⟨by rfl, rfl⟩) (by assumption) ?_; (try simp only [Act.put, List.setIfInBounds_toArray, List.set_cons_zero, List.set_cons_succ]))
      (refine wpAnyH_take (i := 12) (oi := { dst := some 25, op := Op.pick (Operand.tmp 17) (Operand.const (Value.bool true)) (Operand.tmp 24), type := 4, pos := "l6_well.go:154", after := #[{ on := 4, ground := Ground.data }, { on := 11, ground := Ground.data }], guard := none }) (v := ?_) rfl (by kernel_rfl) (by kernel_rfl) (by kernel_rfl) (fun _ _ _ h => h) (Or.inl ⟨by rfl, ?_⟩) (by assumption) ?_; rotate_left; (focus (intro w hSw; (try dsimp only at hSw); go_simp; try with_reducible rfl)); (try simp only [Act.put, List.setIfInBounds_toArray, List.set_cons_zero, List.set_cons_succ]))
      (refine wpAnyH_take (i := 13) (oi := { dst := some 2, op := Op.assign (Operand.tmp 25), type := 4, pos := "l6_well.go:154", after := #[{ on := 12, ground := Ground.data }, { on := 11, ground := Ground.chain }, { on := 0, ground := Ground.phase }, { on := 1, ground := Ground.phase }, { on := 2, ground := Ground.phase }, { on := 3, ground := Ground.phase }, { on := 4, ground := Ground.phase }, { on := 5, ground := Ground.phase }, { on := 6, ground := Ground.phase }, { on := 7, ground := Ground.phase }, { on := 8, ground := Ground.phase }, { on := 9, ground := Ground.phase }, { on := 10, ground := Ground.phase }, { on := 11, ground := Ground.phase }, { on := 12, ground := Ground.phase }], guard := none }) (v := ?_) rfl (by kernel_rfl) (by kernel_rfl) (by kernel_rfl) (fun _ _ _ h => h) (Or.inl ⟨by rfl, ?_⟩) (by assumption) ?_; rotate_left; (focus (intro w hSw; (try dsimp only at hSw); go_simp; try with_reducible rfl)); (try simp only [Act.put, List.setIfInBounds_toArray, List.set_cons_zero, List.set_cons_succ]))
      refine wpAnyH_done (by kernel_rfl) ?_ _
    all_goals (try refine NoPanic.normal ?_)
    all_goals go_wp2
    all_goals go_ret
    all_goals refine ⟨rfl, ?_⟩
    all_goals first | exact ha2 | ((repeat (first | with_reducible exact Below.refl _ _ | with_reducible assumption | with_reducible refine balloc ?_ _ | with_reducible refine bdrew ?_ | with_reducible refine below_drewN ?_ _ | with_reducible refine bset ?_ ?_ _ | with_reducible exact Nat.le_refl _ | with_reducible refine bsize ?_ | (dsimp only; refine Nat.le_trans ?_ (Nat.le_add_right _ _)) | with_reducible refine Nat.le_trans ?_ (Nat.le_add_right _ _) | (with_reducible refine bstep ?_ (by assumption)))); done)
  have e : rdB n d l = incB ((0, 1) :: (l ++ [(n, d)])) := by simp [rdB, h1, h2, h0]
  rw [e]; clear e
  have HSW := Lib.hid (fun W (hB : Below w.heap.size w W) => saw_impl n d v l W (rowG_below h hB) (by omega))
  have hlm : l.length ≤ 16 := by omega
  subst hv0
  have hbdL : ∀ p ∈ (0, 1) :: (l ++ [(n, d)]), ∀ y ∈ fAmt p, -9223372036854775808 ≤ y ∧ y ≤ 9223372036854775807 := by
    intro p hp y hy
    simp only [List.mem_cons, List.mem_append, List.not_mem_nil, or_false] at hp
    rcases hp with rfl | hp | rfl
    · simp [fAmt] at hy; omega
    · exact hbd p hp y hy
    · simp [fAmt] at hy; rcases hy with rfl | rfl <;> assumption
  have hlen : ((0, 1) :: (l ++ [(n, d)])).length = l.length + 1 + 1 := by simp
  have hcl : cellsG fAmt ((0, 1) :: (l ++ [(n, d)])) = cellsG fAmt ((0, 1) :: l) ++ [.int .i64 n, .int .i64 d] := by
    rw [← List.cons_append, cellsG_snoc]; rfl
  have hlen1 : ((0, 1) :: l).length = l.length + 1 := by simp
  have HIN := Lib.hid (fun W v hr => incr_row v ((0, 1) :: (l ++ [(n, d)])) W hr)
  generalize hLL : (0, 1) :: (l ++ [(n, d)]) = L at *
  generalize hKK : (0, 1) :: l = KL at *
  have hclH := Lib.hid hcl
  have hlenH := Lib.hid hlen
  have hlen1H := Lib.hid hlen1
  have hbdH := Lib.hid hbdL
  clear h h1 h2 hl16 hbd hLL hKK hcl hlen hlen1 hbdL hl1 hl2
  have h0i : ¬ ((l.length : Int) = 0) := by omega
  have hm0 : 0 < l.length := by omega
  generalize l.length = m at *
  go_enter Try.func112, Try.ntmps112
  go_wp2_with fail
  refine (HP.out _).mono ?_
  rintro e w1 ⟨rfl, hb1⟩
  have A1 := (RdAt.new w n d (.slice a0 m c0) 104).later hb1
  have ha1 : Below w.heap.size w w1 := by (repeat (first | with_reducible exact Below.refl _ _ | with_reducible assumption | with_reducible refine balloc ?_ _ | with_reducible refine bdrew ?_ | with_reducible refine below_drewN ?_ _ | with_reducible refine bset ?_ ?_ _ | with_reducible exact Nat.le_refl _ | with_reducible refine bsize ?_ | (dsimp only; refine Nat.le_trans ?_ (Nat.le_add_right _ _)) | with_reducible refine Nat.le_trans ?_ (Nat.le_add_right _ _) | (with_reducible refine bstep ?_ (by assumption))))
  obtain ⟨x0, x1, x2, xz⟩ := id A1
  go_wp2_with fail
  refine (HLs.out _ ha1).mono ?_
  rintro e w2 ⟨rfl, hb2⟩
  have A2 := A1.later hb2
  have ha2 := bstep ha1 hb2
  clear x0 x1 x2 xz A1 hb1 hb2 ha1
  obtain ⟨x0, x1, x2, xz⟩ := id A2
  go_upto_region 3 with fail
  refine wp_region_noPanic ?_
  refine wp_region_held_drew (S := (fun W => Below w.heap.size w W ∧ Below w2.heap.size w2 W ∧ W.cell? ⟨w.heap.size, 0, none⟩ = some (.int .i64 n) ∧ W.cell? ⟨w.heap.size, 1, none⟩ = some (.int .i64 d) ∧ W.cell? ⟨w.heap.size, 2, none⟩ = some (.slice a0 m c0))) (by kernel_rfl) ?_ (fun hHeld0 => ?_)
  · (try dsimp only); (go_split_ands; (repeat' with_reducible apply And.intro) <;> first | with_reducible assumption | ((repeat (first | with_reducible exact Below.refl _ _ | with_reducible assumption | with_reducible refine balloc ?_ _ | with_reducible refine bdrew ?_ | with_reducible refine below_drewN ?_ _ | with_reducible refine bset ?_ ?_ _ | with_reducible exact Nat.le_refl _ | with_reducible refine bsize ?_ | (dsimp only; refine Nat.le_trans ?_ (Nat.le_add_right _ _)) | with_reducible refine Nat.le_trans ?_ (Nat.le_add_right _ _) | (with_reducible refine bstep ?_ (by assumption)))); done) | (simp [go_sem]; done) | (simp [go_sem, *]; done) | go_keep)
  (refine wpAnyH_take (i := 0) (oi := { dst := some 13, op := Op.fieldAddr 104 (Operand.tmp 1) 1, type := 0, pos := "l6_well.go:154", after := #[], guard := none }) (v := ?_) rfl (by kernel_rfl) (by kernel_rfl) (by kernel_rfl) (fun _ _ _ h => h) (Or.inl ⟨by rfl, ?_⟩) (by assumption) ?_; rotate_left; (focus (intro w hSw; (try dsimp only at hSw); go_simp; try with_reducible rfl)); (try simp only [Act.put, List.setIfInBounds_toArray, List.set_cons_zero, List.set_cons_succ]))
  (refine wpAnyH_take (i := 1) (oi := { dst := some 14, op := Op.load 102 (Operand.tmp 13), type := 102, pos := "l6_well.go:154", after := #[{ on := 0, ground := Ground.data }], guard := none }) (v := ?_) rfl (by kernel_rfl) (by kernel_rfl) (by kernel_rfl) (fun _ _ _ h => h) (Or.inl ⟨by rfl, ?_⟩) (by assumption) ?_; rotate_left; (focus (intro w hSw; (try dsimp only at hSw); go_simp; try with_reducible rfl)); (try simp only [Act.put, List.setIfInBounds_toArray, List.set_cons_zero, List.set_cons_succ]))
  (refine wpAnyH_take (i := 2) (oi := { dst := some 15, op := Op.call { callee := Callee.builtin Builtin.len, args := #[Operand.tmp 14], argTypes := #[102] }, type := 3, pos := "l6_well.go:154", after := #[{ on := 1, ground := Ground.data }], guard := none }) (v := ?_) rfl (by kernel_rfl) (by kernel_rfl) (by kernel_rfl) (fun _ _ _ h => h) (Or.inl ⟨by rfl, ?_⟩) (by assumption) ?_; rotate_left; (focus (intro w hSw; (try dsimp only at hSw); go_simp; try with_reducible rfl)); (try simp only [Act.put, List.setIfInBounds_toArray, List.set_cons_zero, List.set_cons_succ]))
  (refine wpAnyH_take (i := 3) (oi := { dst := some 16, op := Op.binOp BinOp.eql 3 (Operand.tmp 15) (Operand.const (Value.int IntKind.i64 0)) 3, type := 4, pos := "l6_well.go:154", after := #[{ on := 2, ground := Ground.data }], guard := none }) (v := (.bool false)) rfl (by kernel_rfl) (by kernel_rfl) (by kernel_rfl) (fun _ _ _ h => h) (Or.inl ⟨by rfl, ?_⟩) (by assumption) ?_; (focus (intro w hSw; (try dsimp only at hSw); go_simp; first | done | (first | (simp [h0i]; done) | (simp; omega)))); (try simp only [Act.put, List.setIfInBounds_toArray, List.set_cons_zero, List.set_cons_succ]))
  (refine wpAnyH_take (i := 4) (oi := { dst := some 17, op := Op.move (Operand.tmp 16), type := 4, pos := "l6_well.go:154", after := #[{ on := 3, ground := Ground.data }], guard := none }) (v := ?_) rfl (by kernel_rfl) (by kernel_rfl) (by kernel_rfl) (fun _ _ _ h => h) (Or.inl ⟨by rfl, ?_⟩) (by assumption) ?_; rotate_left; (focus (intro w hSw; (try dsimp only at hSw); go_simp; try with_reducible rfl)); (try simp only [Act.put, List.setIfInBounds_toArray, List.set_cons_zero, List.set_cons_succ]))
  (refine wpAnyH_take (i := 5) (oi := { dst := some 18, op := Op.load 104 (Operand.tmp 1), type := 104, pos := "l6_well.go:154", after := #[{ on := 4, ground := Ground.guard }], guard := some (4, false) }) (v := ?_) rfl (by kernel_rfl) (by kernel_rfl) (by kernel_rfl) (fun _ _ _ h => h) (Or.inl ⟨by rfl, ?_⟩) (by assumption) ?_; rotate_left; (focus (intro w hSw; (try dsimp only at hSw); go_simp; try with_reducible rfl)); (try simp only [Act.put, List.setIfInBounds_toArray, List.set_cons_zero, List.set_cons_succ]))
  (refine wpAnyH_take (i := 7) (oi := { dst := some 20, op := Op.fieldAddr 104 (Operand.tmp 1) 0, type := 0, pos := "l6_well.go:154", after := #[{ on := 4, ground := Ground.guard }], guard := some (4, false) }) (v := ?_) rfl (by kernel_rfl) (by kernel_rfl) (by kernel_rfl) (fun _ _ _ h => h) (Or.inl ⟨by rfl, ?_⟩) (by assumption) ?_; rotate_left; (focus (intro w hSw; (try dsimp only at hSw); go_simp; try with_reducible rfl)); (try simp only [Act.put, List.setIfInBounds_toArray, List.set_cons_zero, List.set_cons_succ]))
  (refine wpAnyH_take (i := 8) (oi := { dst := some 21, op := Op.load 101 (Operand.tmp 20), type := 101, pos := "l6_well.go:154", after := #[{ on := 7, ground := Ground.data }, { on := 4, ground := Ground.guard }], guard := some (4, false) }) (v := ?_) rfl (by kernel_rfl) (by kernel_rfl) (by kernel_rfl) (fun _ _ _ h => h) (Or.inl ⟨by rfl, ?_⟩) (by assumption) ?_; rotate_left; (focus (intro w hSw; (try dsimp only at hSw); go_simp; try with_reducible rfl)); (try simp only [Act.put, List.setIfInBounds_toArray, List.set_cons_zero, List.set_cons_succ]))
  refine wpAnyH_ready (rs := [6, 9]) (by kernel_rfl) (by simp) (AllReadyH.cons (o := { dst := some 19, op := Op.call { callee := Callee.value (Operand.func 126), args := #[Operand.tmp 18], argTypes := #[104] }, type := 102, pos := "l6_well.go:154", after := #[{ on := 5, ground := Ground.data }, { on := 4, ground := Ground.chain }, { on := 4, ground := Ground.guard }], guard := some (4, false) }) rfl (fun K hK => ?rgb2) (AllReadyH.cons (o := { dst := some 22, op := Op.buildSlice 102 1 #[(0, Operand.tmp 21)], type := 102, pos := "l6_well.go:154", after := #[{ on := 8, ground := Ground.data }, { on := 4, ground := Ground.guard }], guard := some (4, false) }) rfl (fun K hK => ?rgb1) AllReadyH.nil))
  case' rgb2 =>
    (go_simp; (first | (go_at_call 126; refine (HSW.out _ (by first | with_reducible assumption | ((repeat (first | with_reducible exact Below.refl _ _ | with_reducible assumption | with_reducible refine balloc ?_ _ | with_reducible refine bdrew ?_ | with_reducible refine below_drewN ?_ _ | with_reducible refine bset ?_ ?_ _ | with_reducible exact Nat.le_refl _ | with_reducible refine bsize ?_ | (dsimp only; refine Nat.le_trans ?_ (Nat.le_add_right _ _)) | with_reducible refine Nat.le_trans ?_ (Nat.le_add_right _ _) | (with_reducible refine bstep ?_ (by assumption)))); done))).mono ?_; rintro e w6 ⟨v6, rfl, hown6, hb6⟩; go_split_ands; (have f2 : Below w2.heap.size w2 w6 := bstep (by first | with_reducible assumption | ((repeat (first | with_reducible exact Below.refl _ _ | with_reducible assumption | with_reducible refine balloc ?_ _ | with_reducible refine bdrew ?_ | with_reducible refine below_drewN ?_ _ | with_reducible refine bset ?_ ?_ _ | with_reducible exact Nat.le_refl _ | with_reducible refine bsize ?_ | (dsimp only; refine Nat.le_trans ?_ (Nat.le_add_right _ _)) | with_reducible refine Nat.le_trans ?_ (Nat.le_add_right _ _) | (with_reducible refine bstep ?_ (by assumption)))); done)) hb6); (have f1 : Below w.heap.size w w6 := bstep ha2 f2); (have f3 := keepa f2 xz x0); (have f4 := keepa f2 xz x1); (have f5 := keepa f2 xz x2); (have o6 := own_mono (base' := w2.heap.size) hown6 (by first | exact Nat.le_refl _ | (simp; done) | (simp; omega))); rw [hlen1H.out] at o6; (obtain ⟨aq6, cq6, rfl⟩ := owns_shape o6); (have p0 := hb6.cell (p := ⟨w2.heap.size, 0, none⟩)); (have p1 := hb6.cell (p := ⟨w2.heap.size, 1, none⟩))) | (go_at_call 125; refine (HIN.out _ _ (rowG_below hrow (by first | with_reducible assumption | ((repeat (first | with_reducible exact Below.refl _ _ | with_reducible assumption | with_reducible refine balloc ?_ _ | with_reducible refine bdrew ?_ | with_reducible refine below_drewN ?_ _ | with_reducible refine bset ?_ ?_ _ | with_reducible exact Nat.le_refl _ | with_reducible refine bsize ?_ | (dsimp only; refine Nat.le_trans ?_ (Nat.le_add_right _ _)) | with_reducible refine Nat.le_trans ?_ (Nat.le_add_right _ _) | (with_reducible refine bstep ?_ (by assumption)))); done)))).mono ?_; rintro e w8 ⟨rfl, hb8⟩; (have f21 : Below w2.heap.size w2 w8 := bstep (by first | with_reducible assumption | ((repeat (first | with_reducible exact Below.refl _ _ | with_reducible assumption | with_reducible refine balloc ?_ _ | with_reducible refine bdrew ?_ | with_reducible refine below_drewN ?_ _ | with_reducible refine bset ?_ ?_ _ | with_reducible exact Nat.le_refl _ | with_reducible refine bsize ?_ | (dsimp only; refine Nat.le_trans ?_ (Nat.le_add_right _ _)) | with_reducible refine Nat.le_trans ?_ (Nat.le_add_right _ _) | (with_reducible refine bstep ?_ (by assumption)))); done)) hb8); (have f22 : Below w.heap.size w w8 := bstep ha2 f21); (have f23 := keepa f21 xz x0); (have f24 := keepa f21 xz x1); (have f25 := keepa f21 xz x2))); (first | refine hK.out _ _ ?_ (fun hHeld1 => ?_) | (go_wp2_with fail; refine hK.out _ _ ?_ (fun hHeld1 => ?_))); (focus ((try dsimp only); (go_split_ands; (repeat' with_reducible apply And.intro) <;> first | with_reducible assumption | ((repeat (first | with_reducible exact Below.refl _ _ | with_reducible assumption | with_reducible refine balloc ?_ _ | with_reducible refine bdrew ?_ | with_reducible refine below_drewN ?_ _ | with_reducible refine bset ?_ ?_ _ | with_reducible exact Nat.le_refl _ | with_reducible refine bsize ?_ | (dsimp only; refine Nat.le_trans ?_ (Nat.le_add_right _ _)) | with_reducible refine Nat.le_trans ?_ (Nat.le_add_right _ _) | (with_reducible refine bstep ?_ (by assumption)))); done) | (simp [go_sem]; done) | (simp [go_sem, *]; done) | go_keep))); clear hK K; (try clear hHeld0); (try simp only [Act.put, List.setIfInBounds_toArray, List.set_cons_zero, List.set_cons_succ]))
    (refine wpAnyH_ready (rs := [9]) (by kernel_rfl) (by simp) ?_; refine AllReadyH.cons (o := { dst := some 22, op := Op.buildSlice 102 1 #[(0, Operand.tmp 21)], type := 102, pos := "l6_well.go:154", after := #[{ on := 8, ground := Ground.data }, { on := 4, ground := Ground.guard }], guard := some (4, false) }) rfl (fun K hK => ?_) AllReadyH.nil; go_simp; skip; (first | refine hK.out _ _ ?_ (fun hHeld2 => ?_) | (go_wp2_with fail; refine hK.out _ _ ?_ (fun hHeld2 => ?_))); (focus ((try dsimp only); (go_split_ands; (repeat' with_reducible apply And.intro) <;> first | with_reducible assumption | ((repeat (first | with_reducible exact Below.refl _ _ | with_reducible assumption | with_reducible refine balloc ?_ _ | with_reducible refine bdrew ?_ | with_reducible refine below_drewN ?_ _ | with_reducible refine bset ?_ ?_ _ | with_reducible exact Nat.le_refl _ | with_reducible refine bsize ?_ | (dsimp only; refine Nat.le_trans ?_ (Nat.le_add_right _ _)) | with_reducible refine Nat.le_trans ?_ (Nat.le_add_right _ _) | (with_reducible refine bstep ?_ (by assumption)))); done) | (simp [go_sem]; done) | (simp [go_sem, *]; done) | go_keep))); clear hK K; (try clear hHeld1); (try simp only [Act.put, List.setIfInBounds_toArray, List.set_cons_zero, List.set_cons_succ]))
    (refine wpAnyH_ready (rs := [10]) (by kernel_rfl) (by simp) ?_; refine AllReadyH.cons (o := { dst := some 23, op := Op.call { callee := Callee.builtin Builtin.append, args := #[Operand.tmp 19, Operand.tmp 22], argTypes := #[102, 102] }, type := 102, pos := "l6_well.go:154", after := #[{ on := 6, ground := Ground.data }, { on := 9, ground := Ground.data }, { on := 6, ground := Ground.chain }, { on := 4, ground := Ground.guard }], guard := some (4, false) }) rfl (fun K hK => ?_) AllReadyH.nil; (first | (refine step_append_own_g rfl (.tmp 19) (.tmp 22) 102 rfl (w2.heap.size) 101 i0 (.agg #[.int .i64 0, .int .i64 0]) 2 16 Try.underlying102 hi hz0 hz1 hz2 rfl (by decide) (.slice aq6 (m + 1) cq6) (m + 1) (cellsG fAmt KL) ?c6 ?own ⟨w6.heap.size, 0, none⟩ 1 1 [.int .i64 n, .int .i64 d] ?c7 rfl ?c1 ?c2 ?c3 ?c4 ?c5 ?_; (case c6 => simp [Act.eval, Act.put]); (case c7 => simp [Act.eval, Act.put]; done); (case own => (repeat (first | with_reducible assumption | with_reducible refine own_alloc ?_ _ | with_reducible refine own_drew ?_ | with_reducible refine own_set ?_ ?_ _))); (case c1 => (intro k u hk; rcases k with _ | _ | k <;> simp at hk <;> subst hk <;> first | (simp [go_sem]; done) | exact (p0 (by simp; done)).trans (by simp [go_sem]; done) | exact (p1 (by simp; done)).trans (by simp [go_sem]; done))); (case c2 => simp [Value.oneCell']); (case c3 => unfold maxLen; omega); (case c4 => omega); (case c5 => first | ((repeat (first | with_reducible exact Below.refl _ _ | with_reducible assumption | with_reducible refine balloc ?_ _ | with_reducible refine bdrew ?_ | with_reducible refine below_drewN ?_ _ | with_reducible refine bset ?_ ?_ _ | with_reducible exact Nat.le_refl _ | with_reducible refine bsize ?_ | (dsimp only; refine Nat.le_trans ?_ (Nat.le_add_right _ _)) | with_reducible refine Nat.le_trans ?_ (Nat.le_add_right _ _) | (with_reducible refine bstep ?_ (by assumption)))); done) | (simp; omega)); intro v7 w7 hown7 hgr7; (obtain ⟨aq7, cq7, rfl⟩ := owns_shape hown7); (have f11 : Below w2.heap.size w2 w7 := grown_bel (base := w2.heap.size) (e := 101) (size := 2) (n := m + 1) (xs := cellsG fAmt KL) (by first | with_reducible assumption | ((repeat (first | with_reducible exact Below.refl _ _ | with_reducible assumption | with_reducible refine balloc ?_ _ | with_reducible refine bdrew ?_ | with_reducible refine below_drewN ?_ _ | with_reducible refine bset ?_ ?_ _ | with_reducible exact Nat.le_refl _ | with_reducible refine bsize ?_ | (dsimp only; refine Nat.le_trans ?_ (Nat.le_add_right _ _)) | with_reducible refine Nat.le_trans ?_ (Nat.le_add_right _ _) | (with_reducible refine bstep ?_ (by assumption)))); done)) hgr7 (by (repeat (first | with_reducible assumption | with_reducible refine own_alloc ?_ _ | with_reducible refine own_drew ?_ | with_reducible refine own_set ?_ ?_ _))) (Nat.le_refl _)); (have f12 : Below w.heap.size w w7 := bstep ha2 f11); (have f13 := keepa f11 xz x0); (have f14 := keepa f11 xz x1); (have f15 := keepa f11 xz x2); rw [← hclH.out] at hown7; (have hrow := rowG_own fAmt_len (l := L) (by rw [hlenH.out]; exact hown7) hbdH.out); rw [hlenH.out] at *) | (refine step_append_own_g rfl (.tmp 19) (.tmp 22) 102 rfl (w2.heap.size) 101 i0 (.agg #[.int .i64 0, .int .i64 0]) 2 16 Try.underlying102 hi hz0 hz1 hz2 rfl (by decide) (.slice aq6 (m + 1) cq6) (m + 1) (cellsG fAmt KL) ?c6 ?own ⟨w2.heap.size, 0, none⟩ 1 1 [.int .i64 n, .int .i64 d] ?c7 rfl ?c1 ?c2 ?c3 ?c4 ?c5 ?_; (case c6 => simp [Act.eval, Act.put]); (case c7 => simp [Act.eval, Act.put]; done); (case own => (repeat (first | with_reducible assumption | with_reducible refine own_alloc ?_ _ | with_reducible refine own_drew ?_ | with_reducible refine own_set ?_ ?_ _))); (case c1 => (intro k u hk; rcases k with _ | _ | k <;> simp at hk <;> subst hk <;> first | (simp [go_sem]; done) | exact (p0 (by simp; done)).trans (by simp [go_sem]; done) | exact (p1 (by simp; done)).trans (by simp [go_sem]; done))); (case c2 => simp [Value.oneCell']); (case c3 => unfold maxLen; omega); (case c4 => omega); (case c5 => first | ((repeat (first | with_reducible exact Below.refl _ _ | with_reducible assumption | with_reducible refine balloc ?_ _ | with_reducible refine bdrew ?_ | with_reducible refine below_drewN ?_ _ | with_reducible refine bset ?_ ?_ _ | with_reducible exact Nat.le_refl _ | with_reducible refine bsize ?_ | (dsimp only; refine Nat.le_trans ?_ (Nat.le_add_right _ _)) | with_reducible refine Nat.le_trans ?_ (Nat.le_add_right _ _) | (with_reducible refine bstep ?_ (by assumption)))); done) | (simp; omega)); intro v7 w7 hown7 hgr7; (obtain ⟨aq7, cq7, rfl⟩ := owns_shape hown7); (have f11 : Below w2.heap.size w2 w7 := grown_bel (base := w2.heap.size) (e := 101) (size := 2) (n := m + 1) (xs := cellsG fAmt KL) (by first | with_reducible assumption | ((repeat (first | with_reducible exact Below.refl _ _ | with_reducible assumption | with_reducible refine balloc ?_ _ | with_reducible refine bdrew ?_ | with_reducible refine below_drewN ?_ _ | with_reducible refine bset ?_ ?_ _ | with_reducible exact Nat.le_refl _ | with_reducible refine bsize ?_ | (dsimp only; refine Nat.le_trans ?_ (Nat.le_add_right _ _)) | with_reducible refine Nat.le_trans ?_ (Nat.le_add_right _ _) | (with_reducible refine bstep ?_ (by assumption)))); done)) hgr7 (by (repeat (first | with_reducible assumption | with_reducible refine own_alloc ?_ _ | with_reducible refine own_drew ?_ | with_reducible refine own_set ?_ ?_ _))) (Nat.le_refl _)); (have f12 : Below w.heap.size w w7 := bstep ha2 f11); (have f13 := keepa f11 xz x0); (have f14 := keepa f11 xz x1); (have f15 := keepa f11 xz x2); rw [← hclH.out] at hown7; (have hrow := rowG_own fAmt_len (l := L) (by rw [hlenH.out]; exact hown7) hbdH.out); rw [hlenH.out] at *)); (first | refine hK.out _ _ ?_ (fun hHeld3 => ?_) | (go_wp2_with fail; refine hK.out _ _ ?_ (fun hHeld3 => ?_))); (focus ((try dsimp only); (go_split_ands; (repeat' with_reducible apply And.intro) <;> first | with_reducible assumption | ((repeat (first | with_reducible exact Below.refl _ _ | with_reducible assumption | with_reducible refine balloc ?_ _ | with_reducible refine bdrew ?_ | with_reducible refine below_drewN ?_ _ | with_reducible refine bset ?_ ?_ _ | with_reducible exact Nat.le_refl _ | with_reducible refine bsize ?_ | (dsimp only; refine Nat.le_trans ?_ (Nat.le_add_right _ _)) | with_reducible refine Nat.le_trans ?_ (Nat.le_add_right _ _) | (with_reducible refine bstep ?_ (by assumption)))); done) | (simp [go_sem]; done) | (simp [go_sem, *]; done) | go_keep))); clear hK K; (try clear hHeld2); (try simp only [Act.put, List.setIfInBounds_toArray, List.set_cons_zero, List.set_cons_succ]))
    (refine wpAnyH_ready (rs := [11]) (by kernel_rfl) (by simp) ?_; refine AllReadyH.cons (o := { dst := some 24, op := Op.call { callee := Callee.value (Operand.func 125), args := #[Operand.tmp 23], argTypes := #[102] }, type := 4, pos := "l6_well.go:154", after := #[{ on := 10, ground := Ground.data }, { on := 10, ground := Ground.chain }, { on := 4, ground := Ground.guard }], guard := some (4, false) }) rfl (fun K hK => ?_) AllReadyH.nil; go_simp; (first | (go_at_call 126; refine (HSW.out _ (by first | with_reducible assumption | ((repeat (first | with_reducible exact Below.refl _ _ | with_reducible assumption | with_reducible refine balloc ?_ _ | with_reducible refine bdrew ?_ | with_reducible refine below_drewN ?_ _ | with_reducible refine bset ?_ ?_ _ | with_reducible exact Nat.le_refl _ | with_reducible refine bsize ?_ | (dsimp only; refine Nat.le_trans ?_ (Nat.le_add_right _ _)) | with_reducible refine Nat.le_trans ?_ (Nat.le_add_right _ _) | (with_reducible refine bstep ?_ (by assumption)))); done))).mono ?_; rintro e w6 ⟨v6, rfl, hown6, hb6⟩; go_split_ands; (have f2 : Below w2.heap.size w2 w6 := bstep (by first | with_reducible assumption | ((repeat (first | with_reducible exact Below.refl _ _ | with_reducible assumption | with_reducible refine balloc ?_ _ | with_reducible refine bdrew ?_ | with_reducible refine below_drewN ?_ _ | with_reducible refine bset ?_ ?_ _ | with_reducible exact Nat.le_refl _ | with_reducible refine bsize ?_ | (dsimp only; refine Nat.le_trans ?_ (Nat.le_add_right _ _)) | with_reducible refine Nat.le_trans ?_ (Nat.le_add_right _ _) | (with_reducible refine bstep ?_ (by assumption)))); done)) hb6); (have f1 : Below w.heap.size w w6 := bstep ha2 f2); (have f3 := keepa f2 xz x0); (have f4 := keepa f2 xz x1); (have f5 := keepa f2 xz x2); (have o6 := own_mono (base' := w2.heap.size) hown6 (by first | exact Nat.le_refl _ | (simp; done) | (simp; omega))); rw [hlen1H.out] at o6; (obtain ⟨aq6, cq6, rfl⟩ := owns_shape o6); (have p0 := hb6.cell (p := ⟨w2.heap.size, 0, none⟩)); (have p1 := hb6.cell (p := ⟨w2.heap.size, 1, none⟩))) | (go_at_call 125; refine (HIN.out _ _ (rowG_below hrow (by first | with_reducible assumption | ((repeat (first | with_reducible exact Below.refl _ _ | with_reducible assumption | with_reducible refine balloc ?_ _ | with_reducible refine bdrew ?_ | with_reducible refine below_drewN ?_ _ | with_reducible refine bset ?_ ?_ _ | with_reducible exact Nat.le_refl _ | with_reducible refine bsize ?_ | (dsimp only; refine Nat.le_trans ?_ (Nat.le_add_right _ _)) | with_reducible refine Nat.le_trans ?_ (Nat.le_add_right _ _) | (with_reducible refine bstep ?_ (by assumption)))); done)))).mono ?_; rintro e w8 ⟨rfl, hb8⟩; (have f21 : Below w2.heap.size w2 w8 := bstep (by first | with_reducible assumption | ((repeat (first | with_reducible exact Below.refl _ _ | with_reducible assumption | with_reducible refine balloc ?_ _ | with_reducible refine bdrew ?_ | with_reducible refine below_drewN ?_ _ | with_reducible refine bset ?_ ?_ _ | with_reducible exact Nat.le_refl _ | with_reducible refine bsize ?_ | (dsimp only; refine Nat.le_trans ?_ (Nat.le_add_right _ _)) | with_reducible refine Nat.le_trans ?_ (Nat.le_add_right _ _) | (with_reducible refine bstep ?_ (by assumption)))); done)) hb8); (have f22 : Below w.heap.size w w8 := bstep ha2 f21); (have f23 := keepa f21 xz x0); (have f24 := keepa f21 xz x1); (have f25 := keepa f21 xz x2))); (first | refine hK.out _ _ ?_ (fun hHeld4 => ?_) | (go_wp2_with fail; refine hK.out _ _ ?_ (fun hHeld4 => ?_))); (focus ((try dsimp only); (go_split_ands; (repeat' with_reducible apply And.intro) <;> first | with_reducible assumption | ((repeat (first | with_reducible exact Below.refl _ _ | with_reducible assumption | with_reducible refine balloc ?_ _ | with_reducible refine bdrew ?_ | with_reducible refine below_drewN ?_ _ | with_reducible refine bset ?_ ?_ _ | with_reducible exact Nat.le_refl _ | with_reducible refine bsize ?_ | (dsimp only; refine Nat.le_trans ?_ (Nat.le_add_right _ _)) | with_reducible refine Nat.le_trans ?_ (Nat.le_add_right _ _) | (with_reducible refine bstep ?_ (by assumption)))); done) | (simp [go_sem]; done) | (simp [go_sem, *]; done) | go_keep))); clear hK K; (try clear hHeld3); (try simp only [Act.put, List.setIfInBounds_toArray, List.set_cons_zero, List.set_cons_succ]))
    (refine wpAnyH_take (i := 12) (oi := { dst := some 25, op := Op.pick (Operand.tmp 17) (Operand.const (Value.bool true)) (Operand.tmp 24), type := 4, pos := "l6_well.go:154", after := #[{ on := 4, ground := Ground.data }, { on := 11, ground := Ground.data }], guard := none }) (v := ?_) rfl (by kernel_rfl) (by kernel_rfl) (by kernel_rfl) (fun _ _ _ h => h) (Or.inl ⟨by rfl, ?_⟩) (by assumption) ?_; rotate_left; (focus (intro w hSw; (try dsimp only at hSw); go_simp; try with_reducible rfl)); (try simp only [Act.put, List.setIfInBounds_toArray, List.set_cons_zero, List.set_cons_succ]))
    (refine wpAnyH_take (i := 13) (oi := { dst := some 2, op := Op.assign (Operand.tmp 25), type := 4, pos := "l6_well.go:154", after := #[{ on := 12, ground := Ground.data }, { on := 11, ground := Ground.chain }, { on := 0, ground := Ground.phase }, { on := 1, ground := Ground.phase }, { on := 2, ground := Ground.phase }, { on := 3, ground := Ground.phase }, { on := 4, ground := Ground.phase }, { on := 5, ground := Ground.phase }, { on := 6, ground := Ground.phase }, { on := 7, ground := Ground.phase }, { on := 8, ground := Ground.phase }, { on := 9, ground := Ground.phase }, { on := 10, ground := Ground.phase }, { on := 11, ground := Ground.phase }, { on := 12, ground := Ground.phase }], guard := none }) (v := ?_) rfl (by kernel_rfl) (by kernel_rfl) (by kernel_rfl) (fun _ _ _ h => h) (Or.inl ⟨by rfl, ?_⟩) (by assumption) ?_; rotate_left; (focus (intro w hSw; (try dsimp only at hSw); go_simp; try with_reducible rfl)); (try simp only [Act.put, List.setIfInBounds_toArray, List.set_cons_zero, List.set_cons_succ]))
    refine wpAnyH_done (by kernel_rfl) ?_ _
  case' rgb1 =>
    (go_simp; skip; (first | refine hK.out _ _ ?_ (fun hHeld1 => ?_) | (go_wp2_with fail; refine hK.out _ _ ?_ (fun hHeld1 => ?_))); (focus ((try dsimp only); (go_split_ands; (repeat' with_reducible apply And.intro) <;> first | with_reducible assumption | ((repeat (first | with_reducible exact Below.refl _ _ | with_reducible assumption | with_reducible refine balloc ?_ _ | with_reducible refine bdrew ?_ | with_reducible refine below_drewN ?_ _ | with_reducible refine bset ?_ ?_ _ | with_reducible exact Nat.le_refl _ | with_reducible refine bsize ?_ | (dsimp only; refine Nat.le_trans ?_ (Nat.le_add_right _ _)) | with_reducible refine Nat.le_trans ?_ (Nat.le_add_right _ _) | (with_reducible refine bstep ?_ (by assumption)))); done) | (simp [go_sem]; done) | (simp [go_sem, *]; done) | go_keep))); clear hK K; (try clear hHeld0); (try simp only [Act.put, List.setIfInBounds_toArray, List.set_cons_zero, List.set_cons_succ]))
    (refine wpAnyH_ready (rs := [6]) (by kernel_rfl) (by simp) ?_; refine AllReadyH.cons (o := { dst := some 19, op := Op.call { callee := Callee.value (Operand.func 126), args := #[Operand.tmp 18], argTypes := #[104] }, type := 102, pos := "l6_well.go:154", after := #[{ on := 5, ground := Ground.data }, { on := 4, ground := Ground.chain }, { on := 4, ground := Ground.guard }], guard := some (4, false) }) rfl (fun K hK => ?_) AllReadyH.nil; go_simp; (first | (go_at_call 126; refine (HSW.out _ (by first | with_reducible assumption | ((repeat (first | with_reducible exact Below.refl _ _ | with_reducible assumption | with_reducible refine balloc ?_ _ | with_reducible refine bdrew ?_ | with_reducible refine below_drewN ?_ _ | with_reducible refine bset ?_ ?_ _ | with_reducible exact Nat.le_refl _ | with_reducible refine bsize ?_ | (dsimp only; refine Nat.le_trans ?_ (Nat.le_add_right _ _)) | with_reducible refine Nat.le_trans ?_ (Nat.le_add_right _ _) | (with_reducible refine bstep ?_ (by assumption)))); done))).mono ?_; rintro e w6 ⟨v6, rfl, hown6, hb6⟩; go_split_ands; (have f2 : Below w2.heap.size w2 w6 := bstep (by first | with_reducible assumption | ((repeat (first | with_reducible exact Below.refl _ _ | with_reducible assumption | with_reducible refine balloc ?_ _ | with_reducible refine bdrew ?_ | with_reducible refine below_drewN ?_ _ | with_reducible refine bset ?_ ?_ _ | with_reducible exact Nat.le_refl _ | with_reducible refine bsize ?_ | (dsimp only; refine Nat.le_trans ?_ (Nat.le_add_right _ _)) | with_reducible refine Nat.le_trans ?_ (Nat.le_add_right _ _) | (with_reducible refine bstep ?_ (by assumption)))); done)) hb6); (have f1 : Below w.heap.size w w6 := bstep ha2 f2); (have f3 := keepa f2 xz x0); (have f4 := keepa f2 xz x1); (have f5 := keepa f2 xz x2); (have o6 := own_mono (base' := w2.heap.size) hown6 (by first | exact Nat.le_refl _ | (simp; done) | (simp; omega))); rw [hlen1H.out] at o6; (obtain ⟨aq6, cq6, rfl⟩ := owns_shape o6); (have p0 := hb6.cell (p := ⟨w2.heap.size, 0, none⟩)); (have p1 := hb6.cell (p := ⟨w2.heap.size, 1, none⟩))) | (go_at_call 125; refine (HIN.out _ _ (rowG_below hrow (by first | with_reducible assumption | ((repeat (first | with_reducible exact Below.refl _ _ | with_reducible assumption | with_reducible refine balloc ?_ _ | with_reducible refine bdrew ?_ | with_reducible refine below_drewN ?_ _ | with_reducible refine bset ?_ ?_ _ | with_reducible exact Nat.le_refl _ | with_reducible refine bsize ?_ | (dsimp only; refine Nat.le_trans ?_ (Nat.le_add_right _ _)) | with_reducible refine Nat.le_trans ?_ (Nat.le_add_right _ _) | (with_reducible refine bstep ?_ (by assumption)))); done)))).mono ?_; rintro e w8 ⟨rfl, hb8⟩; (have f21 : Below w2.heap.size w2 w8 := bstep (by first | with_reducible assumption | ((repeat (first | with_reducible exact Below.refl _ _ | with_reducible assumption | with_reducible refine balloc ?_ _ | with_reducible refine bdrew ?_ | with_reducible refine below_drewN ?_ _ | with_reducible refine bset ?_ ?_ _ | with_reducible exact Nat.le_refl _ | with_reducible refine bsize ?_ | (dsimp only; refine Nat.le_trans ?_ (Nat.le_add_right _ _)) | with_reducible refine Nat.le_trans ?_ (Nat.le_add_right _ _) | (with_reducible refine bstep ?_ (by assumption)))); done)) hb8); (have f22 : Below w.heap.size w w8 := bstep ha2 f21); (have f23 := keepa f21 xz x0); (have f24 := keepa f21 xz x1); (have f25 := keepa f21 xz x2))); (first | refine hK.out _ _ ?_ (fun hHeld2 => ?_) | (go_wp2_with fail; refine hK.out _ _ ?_ (fun hHeld2 => ?_))); (focus ((try dsimp only); (go_split_ands; (repeat' with_reducible apply And.intro) <;> first | with_reducible assumption | ((repeat (first | with_reducible exact Below.refl _ _ | with_reducible assumption | with_reducible refine balloc ?_ _ | with_reducible refine bdrew ?_ | with_reducible refine below_drewN ?_ _ | with_reducible refine bset ?_ ?_ _ | with_reducible exact Nat.le_refl _ | with_reducible refine bsize ?_ | (dsimp only; refine Nat.le_trans ?_ (Nat.le_add_right _ _)) | with_reducible refine Nat.le_trans ?_ (Nat.le_add_right _ _) | (with_reducible refine bstep ?_ (by assumption)))); done) | (simp [go_sem]; done) | (simp [go_sem, *]; done) | go_keep))); clear hK K; (try clear hHeld1); (try simp only [Act.put, List.setIfInBounds_toArray, List.set_cons_zero, List.set_cons_succ]))
    (refine wpAnyH_ready (rs := [10]) (by kernel_rfl) (by simp) ?_; refine AllReadyH.cons (o := { dst := some 23, op := Op.call { callee := Callee.builtin Builtin.append, args := #[Operand.tmp 19, Operand.tmp 22], argTypes := #[102, 102] }, type := 102, pos := "l6_well.go:154", after := #[{ on := 6, ground := Ground.data }, { on := 9, ground := Ground.data }, { on := 6, ground := Ground.chain }, { on := 4, ground := Ground.guard }], guard := some (4, false) }) rfl (fun K hK => ?_) AllReadyH.nil; (first | (refine step_append_own_g rfl (.tmp 19) (.tmp 22) 102 rfl (w2.heap.size) 101 i0 (.agg #[.int .i64 0, .int .i64 0]) 2 16 Try.underlying102 hi hz0 hz1 hz2 rfl (by decide) (.slice aq6 (m + 1) cq6) (m + 1) (cellsG fAmt KL) ?c6 ?own ⟨w6.heap.size, 0, none⟩ 1 1 [.int .i64 n, .int .i64 d] ?c7 rfl ?c1 ?c2 ?c3 ?c4 ?c5 ?_; (case c6 => simp [Act.eval, Act.put]); (case c7 => simp [Act.eval, Act.put]; done); (case own => (repeat (first | with_reducible assumption | with_reducible refine own_alloc ?_ _ | with_reducible refine own_drew ?_ | with_reducible refine own_set ?_ ?_ _))); (case c1 => (intro k u hk; rcases k with _ | _ | k <;> simp at hk <;> subst hk <;> first | (simp [go_sem]; done) | exact (p0 (by simp; done)).trans (by simp [go_sem]; done) | exact (p1 (by simp; done)).trans (by simp [go_sem]; done))); (case c2 => simp [Value.oneCell']); (case c3 => unfold maxLen; omega); (case c4 => omega); (case c5 => first | ((repeat (first | with_reducible exact Below.refl _ _ | with_reducible assumption | with_reducible refine balloc ?_ _ | with_reducible refine bdrew ?_ | with_reducible refine below_drewN ?_ _ | with_reducible refine bset ?_ ?_ _ | with_reducible exact Nat.le_refl _ | with_reducible refine bsize ?_ | (dsimp only; refine Nat.le_trans ?_ (Nat.le_add_right _ _)) | with_reducible refine Nat.le_trans ?_ (Nat.le_add_right _ _) | (with_reducible refine bstep ?_ (by assumption)))); done) | (simp; omega)); intro v7 w7 hown7 hgr7; (obtain ⟨aq7, cq7, rfl⟩ := owns_shape hown7); (have f11 : Below w2.heap.size w2 w7 := grown_bel (base := w2.heap.size) (e := 101) (size := 2) (n := m + 1) (xs := cellsG fAmt KL) (by first | with_reducible assumption | ((repeat (first | with_reducible exact Below.refl _ _ | with_reducible assumption | with_reducible refine balloc ?_ _ | with_reducible refine bdrew ?_ | with_reducible refine below_drewN ?_ _ | with_reducible refine bset ?_ ?_ _ | with_reducible exact Nat.le_refl _ | with_reducible refine bsize ?_ | (dsimp only; refine Nat.le_trans ?_ (Nat.le_add_right _ _)) | with_reducible refine Nat.le_trans ?_ (Nat.le_add_right _ _) | (with_reducible refine bstep ?_ (by assumption)))); done)) hgr7 (by (repeat (first | with_reducible assumption | with_reducible refine own_alloc ?_ _ | with_reducible refine own_drew ?_ | with_reducible refine own_set ?_ ?_ _))) (Nat.le_refl _)); (have f12 : Below w.heap.size w w7 := bstep ha2 f11); (have f13 := keepa f11 xz x0); (have f14 := keepa f11 xz x1); (have f15 := keepa f11 xz x2); rw [← hclH.out] at hown7; (have hrow := rowG_own fAmt_len (l := L) (by rw [hlenH.out]; exact hown7) hbdH.out); rw [hlenH.out] at *) | (refine step_append_own_g rfl (.tmp 19) (.tmp 22) 102 rfl (w2.heap.size) 101 i0 (.agg #[.int .i64 0, .int .i64 0]) 2 16 Try.underlying102 hi hz0 hz1 hz2 rfl (by decide) (.slice aq6 (m + 1) cq6) (m + 1) (cellsG fAmt KL) ?c6 ?own ⟨w2.heap.size, 0, none⟩ 1 1 [.int .i64 n, .int .i64 d] ?c7 rfl ?c1 ?c2 ?c3 ?c4 ?c5 ?_; (case c6 => simp [Act.eval, Act.put]); (case c7 => simp [Act.eval, Act.put]; done); (case own => (repeat (first | with_reducible assumption | with_reducible refine own_alloc ?_ _ | with_reducible refine own_drew ?_ | with_reducible refine own_set ?_ ?_ _))); (case c1 => (intro k u hk; rcases k with _ | _ | k <;> simp at hk <;> subst hk <;> first | (simp [go_sem]; done) | exact (p0 (by simp; done)).trans (by simp [go_sem]; done) | exact (p1 (by simp; done)).trans (by simp [go_sem]; done))); (case c2 => simp [Value.oneCell']); (case c3 => unfold maxLen; omega); (case c4 => omega); (case c5 => first | ((repeat (first | with_reducible exact Below.refl _ _ | with_reducible assumption | with_reducible refine balloc ?_ _ | with_reducible refine bdrew ?_ | with_reducible refine below_drewN ?_ _ | with_reducible refine bset ?_ ?_ _ | with_reducible exact Nat.le_refl _ | with_reducible refine bsize ?_ | (dsimp only; refine Nat.le_trans ?_ (Nat.le_add_right _ _)) | with_reducible refine Nat.le_trans ?_ (Nat.le_add_right _ _) | (with_reducible refine bstep ?_ (by assumption)))); done) | (simp; omega)); intro v7 w7 hown7 hgr7; (obtain ⟨aq7, cq7, rfl⟩ := owns_shape hown7); (have f11 : Below w2.heap.size w2 w7 := grown_bel (base := w2.heap.size) (e := 101) (size := 2) (n := m + 1) (xs := cellsG fAmt KL) (by first | with_reducible assumption | ((repeat (first | with_reducible exact Below.refl _ _ | with_reducible assumption | with_reducible refine balloc ?_ _ | with_reducible refine bdrew ?_ | with_reducible refine below_drewN ?_ _ | with_reducible refine bset ?_ ?_ _ | with_reducible exact Nat.le_refl _ | with_reducible refine bsize ?_ | (dsimp only; refine Nat.le_trans ?_ (Nat.le_add_right _ _)) | with_reducible refine Nat.le_trans ?_ (Nat.le_add_right _ _) | (with_reducible refine bstep ?_ (by assumption)))); done)) hgr7 (by (repeat (first | with_reducible assumption | with_reducible refine own_alloc ?_ _ | with_reducible refine own_drew ?_ | with_reducible refine own_set ?_ ?_ _))) (Nat.le_refl _)); (have f12 : Below w.heap.size w w7 := bstep ha2 f11); (have f13 := keepa f11 xz x0); (have f14 := keepa f11 xz x1); (have f15 := keepa f11 xz x2); rw [← hclH.out] at hown7; (have hrow := rowG_own fAmt_len (l := L) (by rw [hlenH.out]; exact hown7) hbdH.out); rw [hlenH.out] at *)); (first | refine hK.out _ _ ?_ (fun hHeld3 => ?_) | (go_wp2_with fail; refine hK.out _ _ ?_ (fun hHeld3 => ?_))); (focus ((try dsimp only); (go_split_ands; (repeat' with_reducible apply And.intro) <;> first | with_reducible assumption | ((repeat (first | with_reducible exact Below.refl _ _ | with_reducible assumption | with_reducible refine balloc ?_ _ | with_reducible refine bdrew ?_ | with_reducible refine below_drewN ?_ _ | with_reducible refine bset ?_ ?_ _ | with_reducible exact Nat.le_refl _ | with_reducible refine bsize ?_ | (dsimp only; refine Nat.le_trans ?_ (Nat.le_add_right _ _)) | with_reducible refine Nat.le_trans ?_ (Nat.le_add_right _ _) | (with_reducible refine bstep ?_ (by assumption)))); done) | (simp [go_sem]; done) | (simp [go_sem, *]; done) | go_keep))); clear hK K; (try clear hHeld2); (try simp only [Act.put, List.setIfInBounds_toArray, List.set_cons_zero, List.set_cons_succ]))
    (refine wpAnyH_ready (rs := [11]) (by kernel_rfl) (by simp) ?_; refine AllReadyH.cons (o := { dst := some 24, op := Op.call { callee := Callee.value (Operand.func 125), args := #[Operand.tmp 23], argTypes := #[102] }, type := 4, pos := "l6_well.go:154", after := #[{ on := 10, ground := Ground.data }, { on := 10, ground := Ground.chain }, { on := 4, ground := Ground.guard }], guard := some (4, false) }) rfl (fun K hK => ?_) AllReadyH.nil; go_simp; (first | (go_at_call 126; refine (HSW.out _ (by first | with_reducible assumption | ((repeat (first | with_reducible exact Below.refl _ _ | with_reducible assumption | with_reducible refine balloc ?_ _ | with_reducible refine bdrew ?_ | with_reducible refine below_drewN ?_ _ | with_reducible refine bset ?_ ?_ _ | with_reducible exact Nat.le_refl _ | with_reducible refine bsize ?_ | (dsimp only; refine Nat.le_trans ?_ (Nat.le_add_right _ _)) | with_reducible refine Nat.le_trans ?_ (Nat.le_add_right _ _) | (with_reducible refine bstep ?_ (by assumption)))); done))).mono ?_; rintro e w6 ⟨v6, rfl, hown6, hb6⟩; go_split_ands; (have f2 : Below w2.heap.size w2 w6 := bstep (by first | with_reducible assumption | ((repeat (first | with_reducible exact Below.refl _ _ | with_reducible assumption | with_reducible refine balloc ?_ _ | with_reducible refine bdrew ?_ | with_reducible refine below_drewN ?_ _ | with_reducible refine bset ?_ ?_ _ | with_reducible exact Nat.le_refl _ | with_reducible refine bsize ?_ | (dsimp only; refine Nat.le_trans ?_ (Nat.le_add_right _ _)) | with_reducible refine Nat.le_trans ?_ (Nat.le_add_right _ _) | (with_reducible refine bstep ?_ (by assumption)))); done)) hb6); (have f1 : Below w.heap.size w w6 := bstep ha2 f2); (have f3 := keepa f2 xz x0); (have f4 := keepa f2 xz x1); (have f5 := keepa f2 xz x2); (have o6 := own_mono (base' := w2.heap.size) hown6 (by first | exact Nat.le_refl _ | (simp; done) | (simp; omega))); rw [hlen1H.out] at o6; (obtain ⟨aq6, cq6, rfl⟩ := owns_shape o6); (have p0 := hb6.cell (p := ⟨w2.heap.size, 0, none⟩)); (have p1 := hb6.cell (p := ⟨w2.heap.size, 1, none⟩))) | (go_at_call 125; refine (HIN.out _ _ (rowG_below hrow (by first | with_reducible assumption | ((repeat (first | with_reducible exact Below.refl _ _ | with_reducible assumption | with_reducible refine balloc ?_ _ | with_reducible refine bdrew ?_ | with_reducible refine below_drewN ?_ _ | with_reducible refine bset ?_ ?_ _ | with_reducible exact Nat.le_refl _ | with_reducible refine bsize ?_ | (dsimp only; refine Nat.le_trans ?_ (Nat.le_add_right _ _)) | with_reducible refine Nat.le_trans ?_ (Nat.le_add_right _ _) | (with_reducible refine bstep ?_ (by assumption)))); done)))).mono ?_; rintro e w8 ⟨rfl, hb8⟩; (have f21 : Below w2.heap.size w2 w8 := bstep (by first | with_reducible assumption | ((repeat (first | with_reducible exact Below.refl _ _ | with_reducible assumption | with_reducible refine balloc ?_ _ | with_reducible refine bdrew ?_ | with_reducible refine below_drewN ?_ _ | with_reducible refine bset ?_ ?_ _ | with_reducible exact Nat.le_refl _ | with_reducible refine bsize ?_ | (dsimp only; refine Nat.le_trans ?_ (Nat.le_add_right _ _)) | with_reducible refine Nat.le_trans ?_ (Nat.le_add_right _ _) | (with_reducible refine bstep ?_ (by assumption)))); done)) hb8); (have f22 : Below w.heap.size w w8 := bstep ha2 f21); (have f23 := keepa f21 xz x0); (have f24 := keepa f21 xz x1); (have f25 := keepa f21 xz x2))); (first | refine hK.out _ _ ?_ (fun hHeld4 => ?_) | (go_wp2_with fail; refine hK.out _ _ ?_ (fun hHeld4 => ?_))); (focus ((try dsimp only); (go_split_ands; (repeat' with_reducible apply And.intro) <;> first | with_reducible assumption | ((repeat (first | with_reducible exact Below.refl _ _ | with_reducible assumption | with_reducible refine balloc ?_ _ | with_reducible refine bdrew ?_ | with_reducible refine below_drewN ?_ _ | with_reducible refine bset ?_ ?_ _ | with_reducible exact Nat.le_refl _ | with_reducible refine bsize ?_ | (dsimp only; refine Nat.le_trans ?_ (Nat.le_add_right _ _)) | with_reducible refine Nat.le_trans ?_ (Nat.le_add_right _ _) | (with_reducible refine bstep ?_ (by assumption)))); done) | (simp [go_sem]; done) | (simp [go_sem, *]; done) | go_keep))); clear hK K; (try clear hHeld3); (try simp only [Act.put, List.setIfInBounds_toArray, List.set_cons_zero, List.set_cons_succ]))
    (refine wpAnyH_take (i := 12) (oi := { dst := some 25, op := Op.pick (Operand.tmp 17) (Operand.const (Value.bool true)) (Operand.tmp 24), type := 4, pos := "l6_well.go:154", after := #[{ on := 4, ground := Ground.data }, { on := 11, ground := Ground.data }], guard := none }) (v := ?_) rfl (by kernel_rfl) (by kernel_rfl) (by kernel_rfl) (fun _ _ _ h => h) (Or.inl ⟨by rfl, ?_⟩) (by assumption) ?_; rotate_left; (focus (intro w hSw; (try dsimp only at hSw); go_simp; try with_reducible rfl)); (try simp only [Act.put, List.setIfInBounds_toArray, List.set_cons_zero, List.set_cons_succ]))
    (refine wpAnyH_take (i := 13) (oi := { dst := some 2, op := Op.assign (Operand.tmp 25), type := 4, pos := "l6_well.go:154", after := #[{ on := 12, ground := Ground.data }, { on := 11, ground := Ground.chain }, { on := 0, ground := Ground.phase }, { on := 1, ground := Ground.phase }, { on := 2, ground := Ground.phase }, { on := 3, ground := Ground.phase }, { on := 4, ground := Ground.phase }, { on := 5, ground := Ground.phase }, { on := 6, ground := Ground.phase }, { on := 7, ground := Ground.phase }, { on := 8, ground := Ground.phase }, { on := 9, ground := Ground.phase }, { on := 10, ground := Ground.phase }, { on := 11, ground := Ground.phase }, { on := 12, ground := Ground.phase }], guard := none }) (v := ?_) rfl (by kernel_rfl) (by kernel_rfl) (by kernel_rfl) (fun _ _ _ h => h) (Or.inl ⟨by rfl, ?_⟩) (by assumption) ?_; rotate_left; (focus (intro w hSw; (try dsimp only at hSw); go_simp; try with_reducible rfl)); (try simp only [Act.put, List.setIfInBounds_toArray, List.set_cons_zero, List.set_cons_succ]))
    refine wpAnyH_done (by kernel_rfl) ?_ _
  all_goals (try refine NoPanic.normal ?_)
  all_goals go_wp2
  all_goals go_ret
  all_goals exact ⟨rfl, f22⟩
end Go.Proofs.Ytiafmojmanhdoaa

/- Roads: two ways to say that a road is good. -/
namespace Go.Proofs.Ytiafmojmanhdoaa
open Go.ChangeShapes Go.WideShapes Go.ChangeAt Go.RowKit Go.Joins
set_option maxRecDepth 100000
set_option linter.unusedVariables false
set_option linter.unusedSimpArgs false


theorem rp_am {n d : Int} (h : rpB n d = true) : amB n d = true := by unfold rpB at h; rw [Bool.and_eq_true] at h; exact h.1
theorem sg_neg (x : Int) : sgI x < 0 ↔ x < 0 := by unfold sgI; split <;> (try split) <;> omega
theorem sg_geq (x : Int) : 0 ≤ sgI x ↔ 0 ≤ x := by unfold sgI; split <;> (try split) <;> omega
theorem cm_lt {n d p q : Int} (h1 : amB n d = true) (h2 : amB p q = true) : cmI n d p q < 0 ↔ n * q < p * d := by
  unfold cmI okk
  rw [h1, h2]
  simp only [Bool.and_self, if_true, sg_neg]
  omega
theorem ltc_trans {a1 a2 b1 b2 c1 c2 : Int} (ha : 1 ≤ a2) (hb : 1 ≤ b2) (hc : 1 ≤ c2) (h1 : a1 * b2 < b1 * a2) (h2 : b1 * c2 < c1 * b2) : a1 * c2 < c1 * a2 := by
  have e1 : a1 * b2 * c2 < b1 * a2 * c2 := Int.mul_lt_mul_of_pos_right h1 (by omega)
  have e2 : b1 * c2 * a2 < c1 * b2 * a2 := Int.mul_lt_mul_of_pos_right h2 (by omega)
  have e3 : b1 * a2 * c2 = b1 * c2 * a2 := by rw [Int.mul_assoc, Int.mul_assoc, Int.mul_comm a2 c2]
  have e4 : (a1 * c2) * b2 < (c1 * a2) * b2 := by
    have r1 : a1 * c2 * b2 = a1 * b2 * c2 := by rw [Int.mul_assoc, Int.mul_assoc, Int.mul_comm c2 b2]
    have r2 : c1 * a2 * b2 = c1 * b2 * a2 := by rw [Int.mul_assoc, Int.mul_assoc, Int.mul_comm a2 b2]
    rw [r1, r2]; omega
  exact Int.lt_of_mul_lt_mul_right e4 (by omega)
/-- What the model asks of the well number i. -/
def gdAt (n d : Int) (l : List (Int × Int)) (i : Nat) : Bool := match l[i]? with
  | none => true
  | some p => rpB p.1 p.2 && (decide (p.1 ≠ 0) && (decide (p.1 * d < n * p.2) && (decide (i = 0) || (match l[i - 1]? with | some q => decide (q.1 * p.2 < p.1 * q.2) | none => true))))
def goodB (n d : Int) (l : List (Int × Int)) : Bool := rpB n d && (decide (l.length ≤ 16) && (List.range l.length).all (gdAt n d l))
theorem gdAt_0 {n d : Int} {l : List (Int × Int)} {i : Nat} {p : Int × Int} (hp : l[i]? = some p) : gdAt n d l i = (rpB p.1 p.2 && (decide (p.1 ≠ 0) && (decide (p.1 * d < n * p.2) && (decide (i = 0) || (match l[i - 1]? with | some q => decide (q.1 * p.2 < p.1 * q.2) | none => true))))) := by
  unfold gdAt; rw [hp]
theorem rp_pos {n d : Int} (h : rpB n d = true) : 0 ≤ n ∧ 1 ≤ d := by have := am_of _ _ (rp_am h); exact ⟨this.a, this.c⟩
theorem good_all {n d : Int} {l : List (Int × Int)} : (List.range l.length).all (gdAt n d l) = true ↔ ∀ i < l.length, gdAt n d l i = true := by
  rw [List.all_eq_true]
  exact ⟨fun h i hi => h i (List.mem_range.2 hi), fun h i hi => h i (List.mem_range.1 hi)⟩
theorem rd_get_last {n d : Int} {l : List (Int × Int)} : ((0, 1) :: (l ++ [(n, d)]))[l.length + 1]? = some (n, d) := by
  rw [List.getElem?_cons_succ, List.getElem?_append_right (Nat.le_refl _)]; simp
theorem rd_get {n d : Int} {l : List (Int × Int)} {i : Nat} (hi : i < l.length) : ((0, 1) :: (l ++ [(n, d)]))[i + 1]? = l[i]? := by
  rw [List.getElem?_cons_succ, List.getElem?_append_left hi]
theorem am01 : amB 0 1 = true := by decide
/-- The list of all places increases just where the wells do, from the start to the end. -/
theorem inc_iff {n d : Int} {l : List (Int × Int)} (hw : rpB n d = true) (hl : ∀ p ∈ l, rpB p.1 p.2 = true) (h0 : 0 < l.length) :
    incB ((0, 1) :: (l ++ [(n, d)])) = true ↔ (∀ p, l[0]? = some p → 0 < p.1) ∧ (∀ i p q, l[i]? = some p → l[i + 1]? = some q → p.1 * q.2 < q.1 * p.2) ∧ (∀ p, l[l.length - 1]? = some p → p.1 * d < n * p.2) := by
  have hlen : ((0, 1) :: (l ++ [(n, d)])).length = l.length + 1 + 1 := by simp
  constructor
  · intro h
    have H : ∀ i, i + 1 < l.length + 1 + 1 → cmAt ((0, 1) :: (l ++ [(n, d)])) i < 0 := fun i hi => by
      have := (List.all_eq_true.1 h) i (List.mem_range.2 (by rw [hlen]; omega))
      exact of_decide_eq_true this
    refine ⟨fun p hp => ?_, fun i p q hp hq => ?_, fun p hp => ?_⟩
    · have h1 := H 0 (by omega)
      rw [cmAt_is _ 0 (0, 1) p rfl (by rw [rd_get h0]; exact hp), cm_lt am01 (rp_am (hl p (List.mem_of_getElem? hp)))] at h1
      simp at h1
      exact h1
    · have hi1 := (List.getElem?_eq_some_iff.1 hq).1
      have h1 := H (i + 1) (by omega)
      rw [cmAt_is _ (i + 1) p q (by rw [rd_get (by omega)]; exact hp) (by rw [rd_get hi1]; exact hq), cm_lt (rp_am (hl p (List.mem_of_getElem? hp))) (rp_am (hl q (List.mem_of_getElem? hq)))] at h1
      exact h1
    · have h1 := H l.length (by omega)
      rw [cmAt_is _ l.length p (n, d) (by rw [show l.length = (l.length - 1) + 1 by omega, rd_get (by omega)]; exact hp) rd_get_last, cm_lt (rp_am (hl p (List.mem_of_getElem? hp))) (rp_am hw)] at h1
      exact h1
  · rintro ⟨a, b, c⟩
    refine incB_yes _ (fun i hi => ?_)
    rw [hlen] at hi
    rcases i with _ | i
    · obtain ⟨p, hp⟩ : ∃ p, l[0]? = some p := ⟨_, List.getElem?_eq_getElem h0⟩
      rw [cmAt_is _ 0 (0, 1) p rfl (by rw [rd_get h0]; exact hp), cm_lt am01 (rp_am (hl p (List.mem_of_getElem? hp)))]
      simp
      exact a p hp
    · by_cases hc : i + 1 < l.length
      · obtain ⟨p, hp⟩ : ∃ p, l[i]? = some p := ⟨_, List.getElem?_eq_getElem (by omega)⟩
        obtain ⟨q, hq⟩ : ∃ q, l[i + 1]? = some q := ⟨_, List.getElem?_eq_getElem hc⟩
        rw [cmAt_is _ (i + 1) p q (by rw [rd_get (by omega)]; exact hp) (by rw [rd_get hc]; exact hq), cm_lt (rp_am (hl p (List.mem_of_getElem? hp))) (rp_am (hl q (List.mem_of_getElem? hq)))]
        exact b i p q hp hq
      · have hi2 : i + 1 = l.length := by omega
        obtain ⟨p, hp⟩ : ∃ p, l[i]? = some p := ⟨_, List.getElem?_eq_getElem (by omega)⟩
        rw [cmAt_is _ (i + 1) p (n, d) (by rw [rd_get (by omega)]; exact hp) (by rw [show i + 1 + 1 = l.length + 1 by omega]; exact rd_get_last), cm_lt (rp_am (hl p (List.mem_of_getElem? hp))) (rp_am hw)]
        exact c p (by rw [show l.length - 1 = i by omega]; exact hp)
theorem good_is (n d : Int) (l : List (Int × Int)) : goodB n d l = rdB n d l := by
  unfold goodB rdB
  cases hw : rpB n d
  · rfl
  simp only [Bool.true_and]
  by_cases hlen' : ¬ l.length ≤ 16
  · have hlen := hlen'
    have h1 : lsrB 16 l = false := by
      unfold lsrB
      rw [Bool.and_eq_false_iff]
      left
      simp; omega
    simp [hlen, h1]
  have hlen : l.length ≤ 16 := by omega
  have hls : lsrB 16 l = l.all rpP := by
    unfold lsrB
    rw [show decide ((l.length : Int) ≤ 16) = true by simp; omega, Bool.true_and]
    rfl
  rw [hls]
  simp only [hlen, decide_true, Bool.true_and]
  rw [Bool.eq_iff_iff, good_all, Bool.and_eq_true, List.all_eq_true]
  constructor
  · intro h
    have hl : ∀ p ∈ l, rpB p.1 p.2 = true := fun p hp => by
      obtain ⟨i, hi, hip⟩ := List.mem_iff_getElem.1 hp
      have := h i hi
      rw [gdAt_0 (p := p) (by rw [List.getElem?_eq_getElem hi, hip])] at this
      simp only [Bool.and_eq_true] at this
      exact this.1
    refine ⟨hl, ?_⟩
    by_cases h0 : l.length = 0
    · simp [h0]
    rw [Bool.or_eq_true]
    right
    rw [inc_iff hw hl (by omega)]
    refine ⟨fun p hp => ?_, fun i p q hp hq => ?_, fun p hp => ?_⟩
    · have h1 := h 0 (by omega)
      rw [gdAt_0 hp] at h1
      simp only [Bool.and_eq_true, decide_eq_true_eq] at h1
      have := rp_pos (hl p (List.mem_of_getElem? hp))
      omega
    · have hi1 := (List.getElem?_eq_some_iff.1 hq).1
      have h1 := h (i + 1) hi1
      rw [gdAt_0 hq] at h1
      simp only [Bool.and_eq_true, decide_eq_true_eq, Bool.or_eq_true, Nat.add_sub_cancel, hp] at h1
      rcases h1.2.2.2 with h2 | h2
      · omega
      · exact h2
    · have h1 := h (l.length - 1) (by omega)
      rw [gdAt_0 hp] at h1
      simp only [Bool.and_eq_true, decide_eq_true_eq] at h1
      exact h1.2.2.1
  · rintro ⟨hl, h⟩ i hi
    replace hl : ∀ p ∈ l, rpB p.1 p.2 = true := hl
    have h0 : ¬ (l.length = 0) := by omega
    simp only [h0, decide_false, Bool.false_or] at h
    rw [inc_iff hw hl (by omega)] at h
    obtain ⟨a, b, c⟩ := h
    have hpos : ∀ (i : Nat) (p : Int × Int), l[i]? = some p → 0 < p.1 := by
      intro i
      induction i with
      | zero => exact a
      | succ i ih =>
        intro q hq
        have hi1 := (List.getElem?_eq_some_iff.1 hq).1
        obtain ⟨p, hp⟩ : ∃ p, l[i]? = some p := ⟨_, List.getElem?_eq_getElem (by omega)⟩
        have h1 := b i p q hp hq
        have h2 := ih p hp
        have h3 := rp_pos (hl p (List.mem_of_getElem? hp))
        have h4 := rp_pos (hl q (List.mem_of_getElem? hq))
        have h5 : 0 < p.1 * q.2 := Int.mul_pos h2 (by omega)
        have h6 : 0 < q.1 * p.2 := by omega
        exact Int.pos_of_mul_pos_left h6 (by omega)
    have hend : ∀ (k i : Nat) (p : Int × Int), i + k + 1 = l.length → l[i]? = some p → p.1 * d < n * p.2 := by
      intro k
      induction k with
      | zero => intro i p hi hp; exact c p (by rw [show l.length - 1 = i by omega]; exact hp)
      | succ k ih =>
        intro i p hi hp
        obtain ⟨q, hq⟩ : ∃ q, l[i + 1]? = some q := ⟨_, List.getElem?_eq_getElem (by omega)⟩
        have h1 := ih (i + 1) q (by omega) hq
        have h3 := rp_pos (hl p (List.mem_of_getElem? hp))
        have h4 := rp_pos (hl q (List.mem_of_getElem? hq))
        have h5 := rp_pos hw
        exact ltc_trans h3.2 h4.2 h5.2 (b i p q hp hq) h1
    obtain ⟨p, hp⟩ : ∃ p, l[i]? = some p := ⟨_, List.getElem?_eq_getElem hi⟩
    rw [gdAt_0 hp, hl p (List.mem_of_getElem? hp)]
    have h1 := hpos i p hp
    have h2 := hend (l.length - 1 - i) i p (by omega) hp
    have h3 : p.1 ≠ 0 := by omega
    simp only [h3, h2, ne_eq, not_false_eq_true, decide_true, Bool.true_and]
    by_cases hi0 : i = 0
    · simp [hi0]
    · obtain ⟨q, hq⟩ : ∃ q, l[i - 1]? = some q := ⟨_, List.getElem?_eq_getElem (by omega)⟩
      have h4 := b (i - 1) q p hq (by rw [show i - 1 + 1 = i by omega]; exact hp)
      rw [hq]
      simp [h4]
end Go.Proofs.Ytiafmojmanhdoaa

/- Roads: the check of the model. -/
namespace Go.Proofs.Ytiafmojmanhdoaa
open Go.ChangeShapes Go.WideShapes Go.ChangeAt Go.RowKit Go.Joins
set_option maxRecDepth 100000
set_option linter.unusedVariables false
set_option linter.unusedSimpArgs false


end Go.Proofs.Ytiafmojmanhdoaa

/- Roads: IsRoad of the model; the law. -/
namespace Go.Proofs.Ytiafmojmanhdoaa
open Go.ChangeShapes Go.WideShapes Go.ChangeAt Go.RowKit Go.Joins
set_option maxRecDepth 100000
set_option linter.unusedVariables false
set_option linter.unusedSimpArgs false


end Go.Proofs.Ytiafmojmanhdoaa

/- The contracts of reckon at minus, and of LessAmount, of the program, over the translated program. -/
namespace Go.Proofs.Ytiafmojmanhdoaa
open Go.RowKit
set_option linter.unusedSimpArgs false
set_option linter.unusedVariables false

set_option maxHeartbeats 400000 in
theorem reckon_minus (n d p q : Int) (h1 : amB n d = true) (h2 : amB p q = true) (w : World) :
    Calls Try.prog 136 #[.agg #[.int .i64 n, .int .i64 d], .agg #[.int .i64 p, .int .i64 q], .func (.func 137) #[] #[]] w fun e w' => e = .returned (.tuple #[.agg #[.int .i64 (lowN (n * q - p * d) (d * q)), .int .i64 (lowD (n * q - p * d) (d * q))], .bool (lowB (n * q - p * d) (d * q))]) ∧ Below w.heap.size w w' := by
  have ha := am_of n d h1
  have hb := am_of p q h2
  have b1 := ha.b
  have b2 := ha.d
  have b3 := hb.b
  have b4 := hb.d
  go_enter Try.func136, Try.ntmps136
  (go_wp2_with fail; refine (isam_impl _ _ (by omega) (by omega) _).mono ?_; rintro e w1 ⟨rfl, hb1⟩; rw [h1]; have ha1 := hb1; obtain ⟨kc1, kf1, kz1, ky1, kx1, kv1, ku1⟩ := bcell hb1)
  (go_wp2_with fail; refine (isam_impl _ _ (by omega) (by omega) _).mono ?_; rintro e w2 ⟨rfl, hb2⟩; rw [h2]; have ha2 := bjoin ha1 hb2 (by (repeat (first | with_reducible exact Below.refl _ _ | with_reducible assumption | with_reducible refine balloc ?_ _ | with_reducible refine bdrew ?_ | with_reducible refine below_drewN ?_ _ | with_reducible refine bset ?_ ?_ _ | with_reducible exact Nat.le_refl _ | with_reducible refine bsize ?_ | (dsimp only; refine Nat.le_trans ?_ (Nat.le_add_right _ _)) | with_reducible refine Nat.le_trans ?_ (Nat.le_add_right _ _) | (with_reducible refine bstep ?_ (by assumption))))); obtain ⟨kc2, kf2, kz2, ky2, kx2, kv2, ku2⟩ := bcell hb2; obtain ⟨jc2, jf2, jz2, jy2, jx2, jv2, ju2⟩ := bcell ha2)
  (go_wp2_with fail; refine (minus_impl _ _ _ _ ha hb _).mono ?_; rintro e w3 ⟨rfl, hb3⟩; have ha3 := bjoin ha2 hb3 (by (repeat (first | with_reducible exact Below.refl _ _ | with_reducible assumption | with_reducible refine balloc ?_ _ | with_reducible refine bdrew ?_ | with_reducible refine below_drewN ?_ _ | with_reducible refine bset ?_ ?_ _ | with_reducible exact Nat.le_refl _ | with_reducible refine bsize ?_ | (dsimp only; refine Nat.le_trans ?_ (Nat.le_add_right _ _)) | with_reducible refine Nat.le_trans ?_ (Nat.le_add_right _ _) | (with_reducible refine bstep ?_ (by assumption))))); obtain ⟨kc3, kf3, kz3, ky3, kx3, kv3, ku3⟩ := bcell hb3; obtain ⟨jc3, jf3, jz3, jy3, jx3, jv3, ju3⟩ := bcell ha3)
  go_wp2
  refine bodyPost_ret (v := .tuple #[.agg #[.int .i64 (lowN (n * q - p * d) (d * q)), .int .i64 (lowD (n * q - p * d) (d * q))], .bool (lowB (n * q - p * d) (d * q))]) (by simp only [results, Try.results136]; go_simp) rfl ⟨rfl, ?_⟩
  (repeat (first | with_reducible exact Below.refl _ _ | with_reducible assumption | with_reducible refine balloc ?_ _ | with_reducible refine bdrew ?_ | with_reducible refine below_drewN ?_ _ | with_reducible refine bset ?_ ?_ _ | with_reducible exact Nat.le_refl _ | with_reducible refine bsize ?_ | (dsimp only; refine Nat.le_trans ?_ (Nat.le_add_right _ _)) | with_reducible refine Nat.le_trans ?_ (Nat.le_add_right _ _) | (with_reducible refine bstep ?_ (by assumption))))

set_option maxHeartbeats 400000 in
theorem minus_pub_impl (n d p q : Int) (bn : -9223372036854775808 ≤ n ∧ n ≤ 9223372036854775807) (bd : -9223372036854775808 ≤ d ∧ d ≤ 9223372036854775807) (bp : -9223372036854775808 ≤ p ∧ p ≤ 9223372036854775807) (bq : -9223372036854775808 ≤ q ∧ q ≤ 9223372036854775807) (w : World) :
    Calls Try.prog 129 #[.agg #[.int .i64 n, .int .i64 d], .agg #[.int .i64 p, .int .i64 q]] w fun e w' => e = .returned (.tuple #[.agg #[.int .i64 (twoN (okk n d p q) (n * q - p * d) (d * q)), .int .i64 (twoD (okk n d p q) (n * q - p * d) (d * q))], .bool (twoB (okk n d p q) (n * q - p * d) (d * q))]) ∧ Below w.heap.size w w' := by
  cases hk : okk n d p q
  · obtain ⟨e1, e2, e3⟩ := two_no (n * q - p * d) (d * q)
    rw [e1, e2, e3]; clear e1 e2 e3
    go_enter Try.func129, Try.ntmps129
    (go_wp2_with fail; refine (reckon_no _ _ _ _ _ bn.2 bd.2 bp.2 bq.2 hk _).mono ?_; rintro e w1 ⟨rfl, hb1⟩; have ha1 := hb1; obtain ⟨kc1, kf1, kz1, ky1, kx1, kv1, ku1⟩ := bcell hb1)
    go_wp2
    refine bodyPost_ret (v := .tuple #[.agg #[.int .i64 0, .int .i64 0], .bool false]) (by simp only [results, Try.results129]; go_simp) rfl ⟨rfl, ?_⟩
    (repeat (first | with_reducible exact Below.refl _ _ | with_reducible assumption | with_reducible refine balloc ?_ _ | with_reducible refine bdrew ?_ | with_reducible refine below_drewN ?_ _ | with_reducible refine bset ?_ ?_ _ | with_reducible exact Nat.le_refl _ | with_reducible refine bsize ?_ | (dsimp only; refine Nat.le_trans ?_ (Nat.le_add_right _ _)) | with_reducible refine Nat.le_trans ?_ (Nat.le_add_right _ _) | (with_reducible refine bstep ?_ (by assumption))))
  · obtain ⟨e1, e2, e3⟩ := two_yes (n * q - p * d) (d * q)
    rw [e1, e2, e3]; clear e1 e2 e3
    have hk' := hk
    unfold okk at hk'
    rw [Bool.and_eq_true] at hk'
    go_enter Try.func129, Try.ntmps129
    (go_wp2_with fail; refine (reckon_minus _ _ _ _ hk'.1 hk'.2 _).mono ?_; rintro e w1 ⟨rfl, hb1⟩; have ha1 := hb1; obtain ⟨kc1, kf1, kz1, ky1, kx1, kv1, ku1⟩ := bcell hb1)
    go_wp2
    refine bodyPost_ret (v := .tuple #[.agg #[.int .i64 (lowN (n * q - p * d) (d * q)), .int .i64 (lowD (n * q - p * d) (d * q))], .bool (lowB (n * q - p * d) (d * q))]) (by simp only [results, Try.results129]; go_simp) rfl ⟨rfl, ?_⟩
    (repeat (first | with_reducible exact Below.refl _ _ | with_reducible assumption | with_reducible refine balloc ?_ _ | with_reducible refine bdrew ?_ | with_reducible refine below_drewN ?_ _ | with_reducible refine bset ?_ ?_ _ | with_reducible exact Nat.le_refl _ | with_reducible refine bsize ?_ | (dsimp only; refine Nat.le_trans ?_ (Nat.le_add_right _ _)) | with_reducible refine Nat.le_trans ?_ (Nat.le_add_right _ _) | (with_reducible refine bstep ?_ (by assumption))))
end Go.Proofs.Ytiafmojmanhdoaa

/- The contracts of amLess and LessAmount, of the model, over the translated program. -/
namespace Go.Proofs.Ytiafmojmanhdoaa
open Go.RowKit
set_option linter.unusedSimpArgs false
set_option linter.unusedVariables false

end Go.Proofs.Ytiafmojmanhdoaa

/- Roads: what lies between two places (plain). -/
namespace Go.Proofs.Ytiafmojmanhdoaa
open Go.ChangeShapes Go.WideShapes Go.ChangeAt Go.RowKit Go.Joins
set_option maxRecDepth 100000
set_option linter.unusedVariables false
set_option linter.unusedSimpArgs false


/-- How far the second place is from the first one. -/
def difP (p q : Int × Int) : Int × Int := (lowN (q.1 * p.2 - p.1 * q.2) (q.2 * p.2), lowD (q.1 * p.2 - p.1 * q.2) (q.2 * p.2))
def gpL : List (Int × Int) → Int × Int → List (Int × Int)
  | [], _ => []
  | q :: t, p => difP p q :: gpL t q
def endL (n d : Int) (l : List (Int × Int)) : List (Int × Int) := l ++ [(n, d)]
def plL (n d : Int) (l : List (Int × Int)) : List (Int × Int) := (0, 1) :: endL n d l
def gapL (n d : Int) (l : List (Int × Int)) : List (Int × Int) := gpL (endL n d l) (0, 1)
structure StOK (p q : Int × Int) : Prop where
  ap : amB p.1 p.2 = true
  aq : amB q.1 q.2 = true
  dp : p.2 ≤ 1000
  dq : q.2 ≤ 1000
  nq : q.1 ≤ 1000 * q.2
  le : p.1 * q.2 ≤ q.1 * p.2
theorem gpL_len (l : List (Int × Int)) (p : Int × Int) : (gpL l p).length = l.length := by
  induction l generalizing p with
  | nil => rfl
  | cons q t ih => simp [gpL, ih]
theorem gpL_get (l : List (Int × Int)) (p : Int × Int) (i : Nat) (x y : Int × Int) (hx : (p :: l)[i]? = some x) (hy : l[i]? = some y) : (gpL l p)[i]? = some (difP x y) := by
  induction l generalizing p i with
  | nil => simp at hy
  | cons q t ih =>
    rcases i with _ | i
    · simp at hx hy
      subst hx hy
      rfl
    · rw [List.getElem?_cons_succ] at hx hy
      show (difP p q :: gpL t q)[i + 1]? = _
      rw [List.getElem?_cons_succ]
      exact ih q i hx hy
theorem gpL_take (l : List (Int × Int)) (p : Int × Int) (i : Nat) (x y : Int × Int) (hx : (p :: l)[i]? = some x) (hy : l[i]? = some y) : (gpL l p).take (i + 1) = (gpL l p).take i ++ [difP x y] := by
  have h := gpL_get l p i x y hx hy
  rw [List.take_add_one, h]
  rfl
theorem div_le6 (x g : Int) (hx : 0 ≤ x) (hg : 1 ≤ g) (hb : x ≤ 1000000000) : x / g ≤ 1000000000 := by
  have h1 : x / g ≤ x := Int.ediv_le_self _ hx
  omega
theorem st_low {p q : Int × Int} (h : StOK p q) : lowB (q.1 * p.2 - p.1 * q.2) (q.2 * p.2) = true := by
  obtain ⟨ap, aq, dp, dq, nq, le⟩ := h
  have a := am_of _ _ ap
  have b := am_of _ _ aq
  have hd := Int.mul_pos (show 0 < q.2 by have := b.c; omega) (show 0 < p.2 by have := a.c; omega)
  have h1 : q.1 ≤ 1000000 := by omega
  have h2 : q.1 * p.2 ≤ 1000000 * 1000 := Int.mul_le_mul h1 dp (by have := a.c; omega) (by omega)
  have h3 : 0 ≤ p.1 * q.2 := Int.mul_nonneg a.a (by have := b.c; omega)
  have h4 : q.2 * p.2 ≤ 1000 * 1000 := Int.mul_le_mul dq dp (by have := a.c; omega) (by omega)
  have hg := gi_pos (q.1 * p.2 - p.1 * q.2) (q.2 * p.2) (by omega)
  rw [lowB_iff]
  exact ⟨by omega, by omega, div_le6 _ _ (by omega) hg (by omega), div_le6 _ _ (by omega) hg (by omega)⟩
theorem st_am {p q : Int × Int} (h : StOK p q) : amB (difP p q).1 (difP p q).2 = true := amB_low _ _ (st_low h)
theorem rp_all {n d : Int} (h : rpB n d = true) : amB n d = true ∧ d ≤ 1000 ∧ n ≤ 1000 * d := by
  unfold rpB at h
  simp at h
  exact ⟨h.1, h.2.1, h.2.2⟩
theorem rdB_1 {n d : Int} {l : List (Int × Int)} (h : rdB n d l = true) : rpB n d = true ∧ l.length ≤ 16 ∧ ∀ p ∈ l, rpB p.1 p.2 = true := by
  unfold rdB at h
  rw [Bool.and_eq_true, Bool.and_eq_true] at h
  have := lsr_all h.2.1
  exact ⟨h.1, by omega, this.2⟩
/-- The places of a road, one behind the other. -/
theorem rd_step {n d : Int} {l : List (Int × Int)} (h : rdB n d l = true) {i : Nat} {p q : Int × Int} (hp : (plL n d l)[i]? = some p) (hq : (endL n d l)[i]? = some q) : StOK p q := by
  obtain ⟨hw, h16, hl⟩ := rdB_1 h
  have hall : ∀ x ∈ endL n d l, amB x.1 x.2 = true ∧ x.2 ≤ 1000 ∧ x.1 ≤ 1000 * x.2 := by
    intro x hx
    simp only [endL, List.mem_append, List.mem_singleton] at hx
    rcases hx with hx | rfl
    · exact rp_all (hl x hx)
    · exact rp_all hw
  have hp' : amB p.1 p.2 = true ∧ p.2 ≤ 1000 := by
    have hm := List.mem_of_getElem? hp
    simp only [plL, List.mem_cons] at hm
    rcases hm with rfl | hm
    · exact ⟨am01, by decide⟩
    · exact ⟨(hall p hm).1, (hall p hm).2.1⟩
  have hq' := hall q (List.mem_of_getElem? hq)
  refine ⟨hp'.1, hq'.1, hp'.2, hq'.2.1, hq'.2.2, ?_⟩
  by_cases h0 : l.length = 0
  · have e : l = [] := List.length_eq_zero_iff.1 h0
    subst e
    have hi : i = 0 := by
      have := (List.getElem?_eq_some_iff.1 hq).1
      simp [endL] at this
      exact this
    subst hi
    simp [plL, endL] at hp hq
    subst hp hq
    have := am_of _ _ (rp_all hw).1
    have := this.a
    simp; omega
  · have hI : incB (plL n d l) = true := by
      unfold rdB at h
      simp [h0] at h
      exact h.2.2
    have hlen : (plL n d l).length = l.length + 1 + 1 := by simp [plL, endL]
    have hi := (List.getElem?_eq_some_iff.1 hq).1
    have hi2 : (endL n d l).length = l.length + 1 := by simp [endL]
    have h1 := of_decide_eq_true ((List.all_eq_true.1 hI) i (List.mem_range.2 (by rw [hlen]; omega)))
    rw [cmAt_is _ i p q hp (by show ((0, 1) :: endL n d l)[i + 1]? = _; rw [List.getElem?_cons_succ]; exact hq), cm_lt hp'.1 hq'.1] at h1
    omega
/-- The greater one of two, the first one if they are the same. -/
def mxP (m x : Int × Int) : Int × Int := if 0 < cmI x.1 x.2 m.1 m.2 then x else m
def lgF (l : List (Int × Int)) (m : Int × Int) : Int × Int := l.foldl mxP m
def lgO (n d : Int) (l : List (Int × Int)) : Int × Int := if rdB n d l = true then lgF (gapL n d l) (0, 1) else (0, 0)
theorem mx_first {g : Int × Int} (h : amB g.1 g.2 = true) : mxP (0, 1) g = g := by
  have a := am_of _ _ h
  unfold mxP
  by_cases hc : 0 < cmI g.1 g.2 0 1
  · rw [if_pos hc]
  · rw [if_neg hc]
    have h0 : g.1 = 0 := by
      unfold cmI okk at hc
      rw [h, am01] at hc
      simp only [Bool.and_self, if_true] at hc
      unfold sgI at hc
      have := a.a
      split at hc
      · omega
      · omega
    have h1 := (amB_iff _ _).1 h
    rw [h0] at h1
    have h2 : gi 0 g.2 = g.2 := by
      unfold gi
      rw [Int.gcd_zero_left]
      omega
    rw [h2] at h1
    ext
    · exact h0.symm
    · show (1 : Int) = g.2
      omega
theorem gapL_am {n d : Int} {l : List (Int × Int)} (h : rdB n d l = true) : ∀ g ∈ gapL n d l, amB g.1 g.2 = true := by
  intro g hg
  obtain ⟨i, hi, he⟩ := List.mem_iff_getElem.1 hg
  have hi2 : i < (endL n d l).length := by rw [gapL, gpL_len] at hi; exact hi
  obtain ⟨q, hq⟩ : ∃ q, (endL n d l)[i]? = some q := ⟨_, List.getElem?_eq_getElem hi2⟩
  obtain ⟨p, hp⟩ : ∃ p, (plL n d l)[i]? = some p := ⟨_, List.getElem?_eq_getElem (by simp [plL]; omega)⟩
  have h1 := gpL_get (endL n d l) (0, 1) i p q hp hq
  have h2 : (gapL n d l)[i]? = some g := by rw [List.getElem?_eq_getElem hi, he]
  rw [gapL, h1] at h2
  injection h2 with h2
  rw [← h2]
  exact st_am (rd_step h hp hq)
theorem lgF_am : ∀ (l : List (Int × Int)) (m : Int × Int), amB m.1 m.2 = true → (∀ g ∈ l, amB g.1 g.2 = true) → amB (lgF l m).1 (lgF l m).2 = true := by
  intro l
  induction l with
  | nil => intro m h _; exact h
  | cons g l ih =>
    intro m h hl
    refine ih _ ?_ (fun x hx => hl x (List.mem_cons_of_mem _ hx))
    unfold mxP
    split
    · exact hl g (List.mem_cons_self ..)
    · exact h
end Go.Proofs.Ytiafmojmanhdoaa

/- Roads: with how few stops each place can be come to (plain). -/
namespace Go.Proofs.Ytiafmojmanhdoaa
open Go.ChangeShapes Go.WideShapes Go.ChangeAt Go.RowKit Go.Joins
set_option maxRecDepth 100000
set_option linter.unusedVariables false
set_option linter.unusedSimpArgs false


/-- Are two places no farther apart than a tank lasts? -/
def nrB (p q : Int × Int) : Bool := lowB (q.1 * p.2 - p.1 * q.2) (q.2 * p.2) && decide ((difP p q).1 ≤ (difP p q).2)
/-- One more place from which to come. -/
def fwStep (P : List (Int × Int)) (few : List Int) (i : Nat) (cur : Int) (k : Nat) : Int :=
  if few.getD k 0 < 0 ∨ nrB (P.getD k (0, 1)) (P.getD i (0, 1)) = false then cur
  else if cur < 0 ∨ few.getD k 0 + (if 0 < k then 1 else 0) < cur then few.getD k 0 + (if 0 < k then 1 else 0) else cur
def fwC (P : List (Int × Int)) (few : List Int) (i k : Nat) : Int := (List.range k).foldl (fwStep P few i) (-1)
def fwV (P : List (Int × Int)) (few : List Int) (i : Nat) : Int := if i = 0 then 0 else fwC P few i i
def fwF (P : List (Int × Int)) : Nat → List Int
  | 0 => []
  | i + 1 => fwF P i ++ [fwV P (fwF P i) i]
theorem fwF_len (P : List (Int × Int)) (i : Nat) : (fwF P i).length = i := by
  induction i with
  | zero => rfl
  | succ i ih => simp [fwF, ih]
theorem fwC_succ (P : List (Int × Int)) (few : List Int) (i k : Nat) : fwC P few i (k + 1) = fwStep P few i (fwC P few i k) k := by
  simp [fwC, List.range_succ]
theorem fwF_get {P : List (Int × Int)} {i j : Nat} (h : j < i) : (fwF P i).getD j 0 = fwV P (fwF P j) j := by
  induction i with
  | zero => omega
  | succ i ih =>
    by_cases hj : j < i
    · rw [fwF, List.getD_eq_getElem?_getD, List.getElem?_append_left (by rw [fwF_len]; exact hj), ← List.getD_eq_getElem?_getD]
      exact ih hj
    · have hji : j = i := by omega
      subst hji
      rw [fwF, List.getD_eq_getElem?_getD, List.getElem?_append_right (by rw [fwF_len]; exact Nat.le_refl _), fwF_len]
      simp
/-- It looks at what is told of the places before alone. -/
theorem fwC_ext {P : List (Int × Int)} {f g : List Int} {i k : Nat} (h : ∀ j < k, f.getD j 0 = g.getD j 0) : fwC P f i k = fwC P g i k := by
  induction k with
  | zero => rfl
  | succ k ih =>
    rw [fwC_succ, fwC_succ, ih (fun j hj => h j (by omega))]
    unfold fwStep
    rw [h k (by omega)]
def fw (P : List (Int × Int)) (i : Nat) : Int := fwV P (fwF P i) i
theorem fwF_fw {P : List (Int × Int)} {i j : Nat} (h : j < i) : (fwF P i).getD j 0 = fw P j := fwF_get h
theorem fwC_bd {P : List (Int × Int)} {few : List Int} {i k : Nat} (h : ∀ j < k, few.getD j 0 ≤ (j : Int)) : -1 ≤ fwC P few i k ∧ fwC P few i k ≤ (k : Int) := by
  induction k with
  | zero => exact ⟨by simp [fwC], by simp [fwC]⟩
  | succ k ih =>
    have h1 := ih (fun j hj => h j (by omega))
    have h2 := h k (by omega)
    rw [fwC_succ]
    unfold fwStep
    split
    · omega
    · next hn =>
      have h3 : ¬ few.getD k 0 < 0 := fun hh => hn (Or.inl hh)
      split <;> split <;> omega
theorem fw_bd (P : List (Int × Int)) (i : Nat) : -1 ≤ fw P i ∧ fw P i ≤ (i : Int) := by
  induction i using Nat.strongRecOn with
  | ind i ih =>
    unfold fw fwV
    split
    · omega
    · exact fwC_bd (fun j hj => by rw [fwF_fw hj]; exact (ih j hj).2)
theorem fwC_ge {P : List (Int × Int)} {few : List Int} {i k : Nat} : 0 ≤ fwC P few i k ↔ ∃ j < k, 0 ≤ few.getD j 0 ∧ nrB (P.getD j (0, 1)) (P.getD i (0, 1)) = true := by
  induction k with
  | zero => simp [fwC]
  | succ k ih =>
    rw [fwC_succ]
    unfold fwStep
    by_cases hn : few.getD k 0 < 0 ∨ nrB (P.getD k (0, 1)) (P.getD i (0, 1)) = false
    · rw [if_pos hn, ih]
      constructor
      · rintro ⟨j, hj, h⟩; exact ⟨j, by omega, h⟩
      · rintro ⟨j, hj, h1, h2⟩
        by_cases hjk : j = k
        · subst hjk
          rcases hn with hn | hn
          · omega
          · rw [hn] at h2; cases h2
        · exact ⟨j, by omega, h1, h2⟩
    · rw [if_neg hn]
      have h1 : 0 ≤ few.getD k 0 := Int.not_lt.1 (fun hh => hn (Or.inl hh))
      have h2 : nrB (P.getD k (0, 1)) (P.getD i (0, 1)) = true := by
        cases hh : nrB (P.getD k (0, 1)) (P.getD i (0, 1))
        · exact absurd (Or.inr hh) hn
        · rfl
      constructor
      · intro _; exact ⟨k, by omega, h1, h2⟩
      · intro _
        by_cases hc : fwC P few i k < 0 ∨ few.getD k 0 + (if 0 < k then 1 else 0) < fwC P few i k
        · rw [if_pos hc]
          split <;> omega
        · rw [if_neg hc]
          have : ¬ fwC P few i k < 0 := fun hh => hc (Or.inl hh)
          omega
/-- A place is come to from one before it, or is the start. -/
theorem fw_ge {P : List (Int × Int)} {i : Nat} (h0 : 0 < i) : 0 ≤ fw P i ↔ ∃ j < i, 0 ≤ fw P j ∧ nrB (P.getD j (0, 1)) (P.getD i (0, 1)) = true := by
  unfold fw
  rw [fwV, if_neg (by omega), fwC_ge]
  constructor
  · rintro ⟨j, hj, h1, h2⟩; exact ⟨j, hj, by rw [fwF_get hj] at h1; exact h1, h2⟩
  · rintro ⟨j, hj, h1, h2⟩; exact ⟨j, hj, by rw [fwF_get hj]; exact h1, h2⟩
theorem fw_0 (P : List (Int × Int)) : fw P 0 = 0 := by simp [fw, fwV]
/-- The places of a road as they stand to one another. -/
structure Mono (P : List (Int × Int)) : Prop where
  st : ∀ i p q, P[i]? = some p → P[i + 1]? = some q → StOK p q
theorem nr_iff {p q : Int × Int} (h : StOK p q) : nrB p q = true ↔ q.1 * p.2 - p.1 * q.2 ≤ q.2 * p.2 := by
  unfold nrB
  rw [st_low h, Bool.true_and, decide_eq_true_eq]
  have hl := (lowB_iff _ _).1 (st_low h)
  have hg := gi_pos (q.1 * p.2 - p.1 * q.2) (q.2 * p.2) (by have := hl.2.1; omega)
  show lowN _ _ ≤ lowD _ _ ↔ _
  unfold lowN lowD
  rw [if_pos (st_low h), if_pos (st_low h)]
  have hd1 : gi (q.1 * p.2 - p.1 * q.2) (q.2 * p.2) ∣ (q.1 * p.2 - p.1 * q.2) := Int.gcd_dvd_left ..
  have hd2 : gi (q.1 * p.2 - p.1 * q.2) (q.2 * p.2) ∣ (q.2 * p.2) := Int.gcd_dvd_right ..
  generalize gi (q.1 * p.2 - p.1 * q.2) (q.2 * p.2) = g at *
  obtain ⟨a, ha⟩ := hd1
  obtain ⟨b, hb⟩ := hd2
  rw [ha, hb, Int.mul_ediv_cancel_left _ (by omega), Int.mul_ediv_cancel_left _ (by omega)]
  exact ⟨fun h => Int.mul_le_mul_of_nonneg_left h (by omega), fun h => Int.le_of_mul_le_mul_left h (by omega)⟩
theorem mono_am {P : List (Int × Int)} (hm : Mono P) {i : Nat} {p : Int × Int} (hp : P[i]? = some p) (h2 : 2 ≤ P.length) : amB p.1 p.2 = true ∧ p.2 ≤ 1000 := by
  have hi := (List.getElem?_eq_some_iff.1 hp).1
  by_cases hc : i + 1 < P.length
  · obtain ⟨q, hq⟩ : ∃ q, P[i + 1]? = some q := ⟨_, List.getElem?_eq_getElem hc⟩
    have := hm.st i p q hp hq
    exact ⟨this.ap, this.dp⟩
  · obtain ⟨q, hq⟩ : ∃ q, P[i - 1]? = some q := ⟨_, List.getElem?_eq_getElem (by omega)⟩
    have := hm.st (i - 1) q p hq (by rw [show i - 1 + 1 = i by omega]; exact hp)
    exact ⟨this.aq, this.dq⟩
theorem le_trans6 {a1 a2 b1 b2 c1 c2 : Int} (ha : 1 ≤ a2) (hb : 1 ≤ b2) (hc : 1 ≤ c2) (h1 : a1 * b2 ≤ b1 * a2) (h2 : b1 * c2 ≤ c1 * b2) : a1 * c2 ≤ c1 * a2 := by
  have e1 : a1 * b2 * c2 ≤ b1 * a2 * c2 := Int.mul_le_mul_of_nonneg_right h1 (by omega)
  have e2 : b1 * c2 * a2 ≤ c1 * b2 * a2 := Int.mul_le_mul_of_nonneg_right h2 (by omega)
  have e3 : b1 * a2 * c2 = b1 * c2 * a2 := by rw [Int.mul_assoc, Int.mul_assoc, Int.mul_comm a2 c2]
  have e4 : (a1 * c2) * b2 ≤ (c1 * a2) * b2 := by
    have r1 : a1 * c2 * b2 = a1 * b2 * c2 := by rw [Int.mul_assoc, Int.mul_assoc, Int.mul_comm c2 b2]
    have r2 : c1 * a2 * b2 = c1 * b2 * a2 := by rw [Int.mul_assoc, Int.mul_assoc, Int.mul_comm a2 b2]
    rw [r1, r2]; omega
  exact Int.le_of_mul_le_mul_right e4 (by omega)
/-- Any two places, the farther one behind. -/
theorem mono_st {P : List (Int × Int)} (hm : Mono P) : ∀ (e i : Nat) (p q : Int × Int), P[i]? = some p → P[i + e + 1]? = some q → StOK p q := by
  intro e
  induction e with
  | zero => intro i p q hp hq; exact hm.st i p q hp hq
  | succ e ih =>
    intro i p q hp hq
    have hi := (List.getElem?_eq_some_iff.1 hq).1
    obtain ⟨r, hr⟩ : ∃ r, P[i + e + 1]? = some r := ⟨_, List.getElem?_eq_getElem (by omega)⟩
    have h1 := ih i p r hp hr
    have h2 := hm.st (i + e + 1) r q hr hq
    have a1 := am_of _ _ h1.ap
    have a2 := am_of _ _ h1.aq
    have a3 := am_of _ _ h2.aq
    exact ⟨h1.ap, h2.aq, h1.dp, h2.dq, h2.nq, le_trans6 a1.c a2.c a3.c h1.le h2.le⟩
theorem mono_at {P : List (Int × Int)} (hm : Mono P) {i j : Nat} {p q : Int × Int} (hij : i < j) (hp : P[i]? = some p) (hq : P[j]? = some q) : StOK p q :=
  mono_st hm (j - i - 1) i p q hp (by rw [show i + (j - i - 1) + 1 = j by omega]; exact hq)
/-- Who is near to a place is near to those between. -/
theorem nr_between {a b c d : Int × Int} (h1 : StOK a d) (h2 : StOK b c) (ha : a.1 * b.2 ≤ b.1 * a.2) (hd : c.1 * d.2 ≤ d.1 * c.2) (pa : 1 ≤ a.2) (pb : 1 ≤ b.2) (pc : 1 ≤ c.2) (pd : 1 ≤ d.2) (h : nrB a d = true) : nrB b c = true := by
  rw [nr_iff h1] at h
  rw [nr_iff h2]
  -- d1/d2 - a1/a2 ≤ 1; c ≤ d, a ≤ b
  have e1 : d.1 * a.2 ≤ (d.2 + 0) * a.2 + a.1 * d.2 := by
    have : d.2 * a.2 = d.2 * a.2 := rfl
    rw [Int.add_zero]; omega
  have e2 : d.1 * a.2 ≤ (a.1 + a.2) * d.2 := by rw [Int.add_mul]; rw [Int.add_zero, Int.mul_comm d.2 a.2] at e1; omega
  have e3 : c.1 * a.2 ≤ (a.1 + a.2) * c.2 := le_trans6 pc pd pa hd e2
  have e4 : (a.1 + a.2) * b.2 ≤ (b.1 + b.2) * a.2 := by rw [Int.add_mul, Int.add_mul, Int.mul_comm a.2 b.2]; omega
  have e5 : c.1 * b.2 ≤ (b.1 + b.2) * c.2 := le_trans6 pc pa pb e3 e4
  rw [Int.add_mul] at e5
  rw [Int.mul_comm b.2 c.2] at e5
  omega
def allNr (P : List (Int × Int)) : Prop := ∀ i p q, P[i]? = some p → P[i + 1]? = some q → nrB p q = true
theorem getD_at {P : List (Int × Int)} {i : Nat} {p : Int × Int} (h : P[i]? = some p) : P.getD i (0, 1) = p := by rw [List.getD_eq_getElem?_getD, h]; rfl
theorem fw_all {P : List (Int × Int)} (hm : Mono P) (h2 : 2 ≤ P.length) : 0 ≤ fw P (P.length - 1) ↔ allNr P := by
  constructor
  · intro h
    intro i p q hp hq
    -- if one gap is too long, no place behind it is come to
    cases hn : nrB p q with
    | true => rfl
    | false =>
      exfalso
      have hi := (List.getElem?_eq_some_iff.1 hq).1
      have hno : ∀ j, i < j → j < P.length → ¬ 0 ≤ fw P j := by
        intro j
        induction j using Nat.strongRecOn with
        | ind j ih =>
          intro hij hj hc
          rw [fw_ge (by omega)] at hc
          obtain ⟨k, hk, hk0, hkn⟩ := hc
          by_cases hik : i < k
          · exact ih k hk hik (by omega) hk0
          · obtain ⟨x, hx⟩ : ∃ x, P[k]? = some x := ⟨_, List.getElem?_eq_getElem (by omega)⟩
            obtain ⟨y, hy⟩ : ∃ y, P[j]? = some y := ⟨_, List.getElem?_eq_getElem hj⟩
            rw [getD_at hx, getD_at hy] at hkn
            have s1 := mono_at hm (show k < j by omega) hx hy
            have s2 := hm.st i p q hp hq
            have l1 : x.1 * p.2 ≤ p.1 * x.2 := by
              by_cases hki : k = i
              · subst hki
                rw [hp] at hx
                injection hx with hx
                rw [hx]
                exact Int.le_refl _
              · exact (mono_at hm (show k < i by omega) hx hp).le
            have l2 : q.1 * y.2 ≤ y.1 * q.2 := by
              by_cases hki : i + 1 = j
              · subst hki
                rw [hq] at hy
                injection hy with hy
                rw [hy]
                exact Int.le_refl _
              · exact (mono_at hm (show i + 1 < j by omega) hq hy).le
            have := nr_between s1 s2 l1 l2 (am_of _ _ s1.ap).c (am_of _ _ s2.ap).c (am_of _ _ s2.aq).c (am_of _ _ s1.aq).c hkn
            rw [hn] at this
            cases this
      exact hno (P.length - 1) (by omega) (by omega) h
  · intro h
    have : ∀ j, j < P.length → 0 ≤ fw P j := by
      intro j
      induction j with
      | zero => intro _; rw [fw_0]; exact Int.le_refl _
      | succ j ih =>
        intro hj
        rw [fw_ge (by omega)]
        obtain ⟨x, hx⟩ : ∃ x, P[j]? = some x := ⟨_, List.getElem?_eq_getElem (by omega)⟩
        obtain ⟨y, hy⟩ : ∃ y, P[j + 1]? = some y := ⟨_, List.getElem?_eq_getElem hj⟩
        exact ⟨j, by omega, ih (by omega), by rw [getD_at hx, getD_at hy]; exact h j x y hx hy⟩
    exact this _ (by omega)
/-- The longest gap tells of all. -/
theorem mx_le {m x : Int × Int} (hm : amB m.1 m.2 = true) (hx : amB x.1 x.2 = true) : (mxP m x).1 ≤ (mxP m x).2 ↔ m.1 ≤ m.2 ∧ x.1 ≤ x.2 := by
  have a := am_of _ _ hm
  have b := am_of _ _ hx
  have a2 := a.c
  have b2 := b.c
  unfold mxP
  have hc : 0 < cmI x.1 x.2 m.1 m.2 ↔ m.1 * x.2 < x.1 * m.2 := by
    unfold cmI okk
    rw [hm, hx]
    simp only [Bool.and_self, if_true]
    unfold sgI
    split
    · omega
    · split <;> omega
  by_cases h : 0 < cmI x.1 x.2 m.1 m.2
  · rw [if_pos h]
    rw [hc] at h
    constructor
    · intro hh
      refine ⟨?_, hh⟩
      have e1 : x.1 * m.2 ≤ x.2 * m.2 := Int.mul_le_mul_of_nonneg_right hh (by omega)
      have e2 : m.1 * x.2 < m.2 * x.2 := by rw [Int.mul_comm m.2 x.2]; omega
      exact Int.le_of_lt (Int.lt_of_mul_lt_mul_right e2 (by omega))
    · exact fun hh => hh.2
  · rw [if_neg h]
    rw [hc] at h
    constructor
    · intro hh
      refine ⟨hh, ?_⟩
      have e1 : m.1 * x.2 ≤ m.2 * x.2 := Int.mul_le_mul_of_nonneg_right hh (by omega)
      have e2 : x.1 * m.2 ≤ x.2 * m.2 := by rw [Int.mul_comm x.2 m.2]; omega
      exact Int.le_of_mul_le_mul_right e2 (by omega)
    · exact fun hh => hh.1
theorem lgF_le : ∀ (l : List (Int × Int)) (m : Int × Int), amB m.1 m.2 = true → (∀ g ∈ l, amB g.1 g.2 = true) → ((lgF l m).1 ≤ (lgF l m).2 ↔ m.1 ≤ m.2 ∧ ∀ g ∈ l, g.1 ≤ g.2) := by
  intro l
  induction l with
  | nil => intro m _ _; simp [lgF]
  | cons g l ih =>
    intro m hm hl
    have hg := hl g (List.mem_cons_self ..)
    have h1 : amB (mxP m g).1 (mxP m g).2 = true := by unfold mxP; split <;> assumption
    have := ih (mxP m g) h1 (fun x hx => hl x (List.mem_cons_of_mem _ hx))
    show (lgF l (mxP m g)).1 ≤ (lgF l (mxP m g)).2 ↔ _
    rw [this, mx_le hm hg]
    simp only [List.mem_cons, forall_eq_or_imp]
    exact and_assoc
theorem rd_mono {n d : Int} {l : List (Int × Int)} (h : rdB n d l = true) : Mono (plL n d l) :=
  ⟨fun i p q hp hq => rd_step h hp (by rw [plL, List.getElem?_cons_succ] at hq; exact hq)⟩
theorem plL_len (n d : Int) (l : List (Int × Int)) : (plL n d l).length = l.length + 1 + 1 := by simp [plL, endL]
/-- Some stops are enough just where the longest gap is no longer than a tank lasts. -/
theorem go_iff {n d : Int} {l : List (Int × Int)} (h : rdB n d l = true) : 0 ≤ fw (plL n d l) (l.length + 1) ↔ (lgO n d l).1 ≤ (lgO n d l).2 := by
  have h1 := fw_all (rd_mono h) (by rw [plL_len]; omega)
  rw [plL_len, show l.length + 1 + 1 - 1 = l.length + 1 by omega] at h1
  have e1 : lgO n d l = lgF (gapL n d l) (0, 1) := by simp [lgO, h]
  rw [h1, e1, lgF_le _ _ am01 (gapL_am h)]
  constructor
  · intro ha
    refine ⟨by simp, fun g hg => ?_⟩
    obtain ⟨i, hi, he⟩ := List.mem_iff_getElem.1 hg
    have hi2 : i < (endL n d l).length := by rw [gapL, gpL_len] at hi; exact hi
    obtain ⟨q, hq⟩ : ∃ q, (endL n d l)[i]? = some q := ⟨_, List.getElem?_eq_getElem hi2⟩
    obtain ⟨p, hp⟩ : ∃ p, (plL n d l)[i]? = some p := ⟨_, List.getElem?_eq_getElem (by simp [plL]; omega)⟩
    have h2 := gpL_get (endL n d l) (0, 1) i p q hp hq
    have h3 : (gapL n d l)[i]? = some g := by rw [List.getElem?_eq_getElem hi, he]
    rw [gapL, h2] at h3
    injection h3 with h3
    have h4 := ha i p q hp (by rw [plL, List.getElem?_cons_succ]; exact hq)
    unfold nrB at h4
    rw [Bool.and_eq_true, decide_eq_true_eq, h3] at h4
    exact h4.2
  · rintro ⟨_, hg⟩ i p q hp hq
    have hq' : (endL n d l)[i]? = some q := by rw [plL, List.getElem?_cons_succ] at hq; exact hq
    have h2 := gpL_get (endL n d l) (0, 1) i p q hp hq'
    unfold nrB
    rw [st_low (rd_step h hp hq'), Bool.true_and, decide_eq_true_eq]
    exact hg _ (List.mem_of_getElem? h2)
end Go.Proofs.Ytiafmojmanhdoaa

/- Roads: the gaps, of the program. -/
namespace Go.Proofs.Ytiafmojmanhdoaa
open Go.ChangeShapes Go.WideShapes Go.ChangeAt Go.RowKit Go.Joins
set_option maxRecDepth 100000
set_option linter.unusedVariables false
set_option linter.unusedSimpArgs false


theorem liesG_set {α : Type} {m : Nat} {f : α → List Int} {w : World} {a : Addr} {cap : Nat} {l : List α} (h : LiesG m f w a cap l) {p : Addr} (hp : a.block ≠ p.block) (u : Value) : LiesG m f (w.setCell p u) a cap l :=
  ⟨h.hlc, h.hcap, fun i x hx j y hy => by rw [World.cell?_setCell_far w p _ u (by rw [add_block]; exact hp.symm)]; exact h.hcell i x hx j y hy, h.hbd⟩
theorem liesG_grown {α : Type} {m : Nat} {f : α → List Int} {w w' : World} {a : Addr} {cap : Nat} {l : List α} (h : LiesG m f w a cap l) {row : Option Nat} (hg : w.grownBy w' row) (hne : some a.block ≠ row) : LiesG m f w' a cap l :=
  ⟨h.hlc, h.hcap, fun i x hx j y hy => hg.cell (h.hcell i x hx j y hy) (by rw [add_block]; exact hne), h.hbd⟩
theorem add_at (g k : Nat) : (⟨g, 0, none⟩ : Addr).add k = ⟨g, k, none⟩ := by unfold Addr.add; split <;> simp_all
theorem own_form {w : World} {base e size n : Nat} {v : Value} {xs : List Value} (h : w.ownsRow base e size v n xs) (hn : 0 < n) : ∃ g cap, v = .slice (some ⟨g, 0, none⟩) n cap ∧ base ≤ g ∧ g < w.heap.size := by
  have h' := h
  rcases h.2 with ⟨_, h0⟩ | ⟨g, cap, cur, hv, hb, hh, _⟩
  · omega
  · exact ⟨g, cap, hv, hb, (Array.getElem?_eq_some_iff.1 hh).1⟩
set_option maxHeartbeats 6400000 in
theorem gaps_impl (n d : Int) (bn : -9223372036854775808 ≤ n ∧ n ≤ 9223372036854775807) (bd : -9223372036854775808 ≤ d ∧ d ≤ 9223372036854775807) (v : Value) (l : List (Int × Int)) (w : World) (h : RowG 2 fAmt w v l) (hrd : rdB n d l = true) :
    Calls Try.prog 114 #[.agg #[.int .i64 n, .int .i64 d, v]] w (EndL 101 2 fAmt (gapL n d l) w) := by
  obtain ⟨i0, hi, hz0, hz1, hz2⟩ := info_parts infoAmt
  obtain ⟨hw, h16, hlr⟩ := rdB_1 hrd
  have HC := Lib.hid (fun W g p (hB : Below w.heap.size w W) q0 q1 (p0 : W.cell? ⟨p, 0, none⟩ = some (.int .i64 n)) (p1 : W.cell? ⟨p, 1, none⟩ = some (.int .i64 d)) => catA_two g v (.slice (some ⟨p, 0, none⟩) 1 1) l [(n, d)] W q0 q1
    (rowG_below h hB) (Or.inr ⟨_, _, rfl, lies_one p0 p1 bn bd⟩) (by simp; omega))
  obtain ⟨a0, c0, hv0, hl1, hl2⟩ := row_shape h
  subst hv0
  clear h
  have hst := Lib.hid (fun (i : Nat) (p q : Int × Int) hp hq => rd_step hrd (i := i) (p := p) (q := q) hp hq)
  have hQlen : (endL n d l).length = l.length + 1 := by simp [endL]
  have hQbd : ∀ p ∈ endL n d l, ∀ y ∈ fAmt p, -9223372036854775808 ≤ y ∧ y ≤ 9223372036854775807 := by
    intro p hp y hy
    have hpr : rpB p.1 p.2 = true := by
      simp only [endL, List.mem_append, List.mem_singleton] at hp
      rcases hp with hp | rfl
      · exact hlr p hp
      · exact hw
    have ha := am_of _ _ (rp_am hpr)
    have q1 := ha.a
    have q2 := ha.b
    have q3 := ha.c
    have q4 := ha.d
    simp [fAmt] at hy
    omega
  have hpl : plL n d l = (0, 1) :: endL n d l := rfl
  unfold gapL
  change Hid (∀ W g p, Below w.heap.size w W → _ → _ → _ → _ → Calls Try.prog _ _ W (EndL 101 2 fAmt (endL n d l) W)) at HC
  rw [hpl] at hst
  clear hpl hlr hrd
  generalize endL n d l = Q at *
  generalize hGG : gpL Q (0, 1) = G at *
  have hGlen : G.length = l.length + 1 := by rw [← hGG, gpL_len, hQlen]
  have hGt := Lib.hid (fun i x y hx hy => by have := gpL_take Q (0, 1) i x y hx hy; rw [hGG] at this; exact this)
  clear hGG
  go_enter Try.func114, Try.ntmps114
  go_wp2_with fail
  refine (whole_bi 0 _).mono ?_
  rintro e w1 ⟨rfl, hb1⟩
  have A1 := (RdAt.new w n d (.slice a0 l.length c0) 104).later hb1
  have ha1 : Below w.heap.size w w1 := by (repeat (first | with_reducible exact Below.refl _ _ | with_reducible assumption | with_reducible refine balloc ?_ _ | with_reducible refine bdrew ?_ | with_reducible refine below_drewN ?_ _ | with_reducible refine bset ?_ ?_ _ | with_reducible exact Nat.le_refl _ | with_reducible refine bsize ?_ | (dsimp only; refine Nat.le_trans ?_ (Nat.le_add_right _ _)) | with_reducible refine Nat.le_trans ?_ (Nat.le_add_right _ _) | (with_reducible refine bstep ?_ (by assumption))))
  obtain ⟨x0, x1, x2, xz⟩ := A1
  clear hb1
  go_wp2_with fail
  refine (HC.out _ (w1.heap.size + 1 + 1) (w1.heap.size + 1) (by (repeat (first | with_reducible exact Below.refl _ _ | with_reducible assumption | with_reducible refine balloc ?_ _ | with_reducible refine bdrew ?_ | with_reducible refine below_drewN ?_ _ | with_reducible refine bset ?_ ?_ _ | with_reducible exact Nat.le_refl _ | with_reducible refine bsize ?_ | (dsimp only; refine Nat.le_trans ?_ (Nat.le_add_right _ _)) | with_reducible refine Nat.le_trans ?_ (Nat.le_add_right _ _) | (with_reducible refine bstep ?_ (by assumption))))) (by simp [go_sem]) (by simp [go_sem]) (by simp [go_sem]) (by simp [go_sem])).mono ?_
  rintro e w2 ⟨v2, rfl, hown2, hb2⟩
  have ha2 : Below w.heap.size w w2 := by (repeat (first | with_reducible exact Below.refl _ _ | with_reducible assumption | with_reducible refine balloc ?_ _ | with_reducible refine bdrew ?_ | with_reducible refine below_drewN ?_ _ | with_reducible refine bset ?_ ?_ _ | with_reducible exact Nat.le_refl _ | with_reducible refine bsize ?_ | (dsimp only; refine Nat.le_trans ?_ (Nat.le_add_right _ _)) | with_reducible refine Nat.le_trans ?_ (Nat.le_add_right _ _) | (with_reducible refine bstep ?_ (by assumption))))
  have c0 : w2.cell? ⟨w1.heap.size, 0, none⟩ = some (.int .i64 0) := (hb2.cell (p := ⟨w1.heap.size, 0, none⟩) (by first | (simp; done) | (simp; omega))).trans (by simp [go_sem])
  have c1 : w2.cell? ⟨w1.heap.size, 1, none⟩ = some (.int .i64 1) := (hb2.cell (p := ⟨w1.heap.size, 1, none⟩) (by first | (simp; done) | (simp; omega))).trans (by simp [go_sem])
  have c2 : w2.frozen? ⟨w1.heap.size, 0, none⟩ = false := (hb2.frozen (p := ⟨w1.heap.size, 0, none⟩) (by first | (simp; done) | (simp; omega))).trans (by simp [go_sem])
  have c3 : w2.frozen? ⟨w1.heap.size, 1, none⟩ = false := (hb2.frozen (p := ⟨w1.heap.size, 1, none⟩) (by first | (simp; done) | (simp; omega))).trans (by simp [go_sem])
  have hz : w1.heap.size + 1 + 1 < w2.heap.size := Nat.lt_of_lt_of_le (by simp) hb2.size
  obtain ⟨gq, cq, rfl, hgq1, hgq2⟩ := own_form hown2 (by omega)
  have hQ0 := Lib.hid (liesG_own fAmt_len hown2 hQbd)
  have hgq : w1.heap.size ≠ gq := by simp at hgq1; omega
  have hw1w : w.heap.size ≤ w1.heap.size := ha1.size
  clear hown2 hb2 HC x0 x1 x2 xz hgq1
  have ha2s := ha2.size
  have hlc := hQ0.out.hlc
  have hcap := hQ0.out.hcap
  go_wp2
  go_loopw [3, 6, 7, 8, 18] (fun v u6 u7 u8 i wr => ∃ (j : Nat) (b : Int × Int), j ≤ Q.length ∧ i = .int .i64 j ∧ Hid (((0, 1) :: Q)[j]? = some b) ∧ wr.cell? ⟨w1.heap.size, 0, none⟩ = some (.int .i64 b.1) ∧ wr.cell? ⟨w1.heap.size, 1, none⟩ = some (.int .i64 b.2) ∧
      wr.frozen? ⟨w1.heap.size, 0, none⟩ = false ∧ wr.frozen? ⟨w1.heap.size, 1, none⟩ = false ∧ w2.heap.size ≤ wr.heap.size ∧ Hid (LiesG 2 fAmt wr ⟨gq, 0, none⟩ cq Q) ∧ wr.ownsRow w2.heap.size 101 2 v (G.take j).length (cellsG fAmt (G.take j)) ∧ Below w.heap.size w wr) (fun _ _ _ _ i _ => Q.length - (intOf i).toNat)
  case atStart =>
    exact ⟨0, (0, 1), Nat.zero_le _, rfl, Lib.hid rfl, c0, c1, c2, c3, Nat.le_refl _, hQ0, World.ownsRow_nil _ _ _ _, ha2⟩
  case round =>
    clear c0 c1 c2 c3 hQ0 ha2
    obtain ⟨j, b, hj, rfl, hb, c0, c1, c2, c3, hzr, hQ, hown, hbel⟩ := hrel
    obtain ⟨av, cv, rfl⟩ := owns_shape hown
    have hz1 : w1.heap.size < wr.heap.size := by omega
    by_cases hlt : j < Q.length
    · obtain ⟨q, hq⟩ : ∃ q, Q[j]? = some q := ⟨_, List.getElem?_eq_getElem hlt⟩
      have hstq := hst.out j b q hb.out hq
      have hdif := Lib.hid (hGt.out j b q hb.out hq)
      have hbn : Hid (((0, 1) :: Q)[j + 1]? = some q) := Lib.hid (by rw [List.getElem?_cons_succ]; exact hq)
      have e0 : wr.cell? ⟨gq, j * 2, none⟩ = some (.int .i64 q.1) := by
        have h := hQ.out.hcell j q hq 0 q.1 rfl
        rw [add_at] at h
        exact h
      have e1 : wr.cell? ⟨gq, j * 2 + 1, none⟩ = some (.int .i64 q.2) := by
        have h := hQ.out.hcell j q hq 1 q.2 rfl
        rw [add_at] at h
        exact h
      have aq := am_of _ _ hstq.aq
      have ab := am_of _ _ hstq.ap
      have HL := Lib.hid (fun W => minus_pub_impl q.1 q.2 b.1 b.2 (by have := aq.a; have := aq.b; omega) (by have := aq.c; have := aq.d; omega) (by have := ab.a; have := ab.b; omega) (by have := ab.c; have := ab.d; omega) W)
      have hok : okk q.1 q.2 b.1 b.2 = true := by simp [okk, hstq.aq, hstq.ap]
      rw [hok, (two_yes _ _).1, (two_yes _ _).2.1, (two_yes _ _).2.2, st_low hstq] at HL
      have hdx : difP b q = (lowN (q.1 * b.2 - b.1 * q.2) (q.2 * b.2), lowD (q.1 * b.2 - b.1 * q.2) (q.2 * b.2)) := rfl
      rw [hdx] at hdif
      generalize lowN (q.1 * b.2 - b.1 * q.2) (q.2 * b.2) = gx at *
      generalize lowD (q.1 * b.2 - b.1 * q.2) (q.2 * b.2) = gy at *
      have hGj : (G.take j).length ≤ 17 := by rw [List.length_take]; omega
      have hGJ : (G.take (j + 1)).length = (G.take j).length + 1 := by rw [hdif.out]; simp
      generalize hTT : G.take j = TT at *
      generalize hTU : G.take (j + 1) = TU at *
      replace hTU := Lib.hid hTU
      clear hTT hdx hok aq ab hstq hq hb
      obtain ⟨u, y⟩ := q
      obtain ⟨bx, bz⟩ := b
      simp only at e0 e1 c0 c1 HL
      go_wp2_with fail
      refine (HL.out _).mono ?_
      rintro e w3 ⟨rfl, hb3⟩
      have f3 : Below wr.heap.size wr w3 := by (repeat (first | with_reducible exact Below.refl _ _ | with_reducible assumption | with_reducible refine balloc ?_ _ | with_reducible refine bdrew ?_ | with_reducible refine below_drewN ?_ _ | with_reducible refine bset ?_ ?_ _ | with_reducible exact Nat.le_refl _ | with_reducible refine bsize ?_ | (dsimp only; refine Nat.le_trans ?_ (Nat.le_add_right _ _)) | with_reducible refine Nat.le_trans ?_ (Nat.le_add_right _ _) | (with_reducible refine bstep ?_ (by assumption))))
      obtain ⟨d0, d1⟩ := later_two hb3
      have dz : wr.heap.size < w3.heap.size := Nat.lt_of_lt_of_le (by simp) hb3.size
      have k0 := keepa f3 hz1 c0
      have k1 := keepa f3 hz1 c1
      have k2 := keepf f3 hz1 c2
      have k3 := keepf f3 hz1 c3
      have kz := Nat.lt_of_lt_of_le hz1 f3.size
      have hown3 := ownsRow_below (hown.alloc (.cells #[.int .i64 u, .int .i64 y] 101)) hb3
      have hQ3 := Lib.hid (liesG_below hQ.out f3)
      have hbel3 := bstep hbel f3
      have hne1 : ∀ o, some o = (Value.slice av TT.length cv).ownBlock → o ≠ wr.heap.size := fun o ho hoo => by
        have := own_lt hown ho.symm
        omega
      have hne2 : ∀ o, some o = (Value.slice av TT.length cv).ownBlock → w2.heap.size ≤ o := fun o ho => own_block hown ho.symm
      have hz2r : w2.heap.size ≤ w3.heap.size := Nat.le_trans hzr f3.size
      clear c0 c1 c2 c3 hz1 hown hQ hbel hb3 e0 e1 HL
      go_wp2_with (at_builtin; refine wpList_append_own _ rfl _ _ 102 rfl w2.heap.size 101 i0 (.agg #[.int .i64 0, .int .i64 0]) 2 16 Try.underlying102 hi hz0 hz1 hz2 rfl (by decide) _ _ _ rfl ((hown3.alloc _).alloc _) ⟨w3.heap.size + 1, 0, none⟩ 1 1 [.int .i64 gx, .int .i64 gy] ?c0 rfl ?c1 ?c2 ?c3 ?c4 ?c5 ?_)
      case c0 => simp [Act.eval, Act.put]
      case c1 => (intro k u hk; rcases k with _ | _ | k <;> simp at hk <;> subst hk <;> simp [go_sem])
      case c2 => simp [Value.oneCell']
      case c3 => unfold maxLen; omega
      case c4 => omega
      case c5 => simp; omega
      intro v' w4 hown' hgr hnil
      have m0 : w4.cell? ⟨w1.heap.size, 0, none⟩ = some (.int .i64 bx) := hgr.cell (by simp [go_sem, k0, kz]) (fun e => by have h9 : w2.heap.size ≤ w1.heap.size := hne2 _ e; omega)
      have m1 : w4.cell? ⟨w1.heap.size, 1, none⟩ = some (.int .i64 bz) := hgr.cell (by simp [go_sem, k1, kz]) (fun e => by have h9 : w2.heap.size ≤ w1.heap.size := hne2 _ e; omega)
      have m2 : w4.frozen? ⟨w1.heap.size, 0, none⟩ = false := grown_frozen hgr (by simp [go_sem, k2, kz]) (by simp; omega) (fun e => by have h9 : w2.heap.size ≤ w1.heap.size := hne2 _ e; omega)
      have m3 : w4.frozen? ⟨w1.heap.size, 1, none⟩ = false := grown_frozen hgr (by simp [go_sem, k3, kz]) (by simp; omega) (fun e => by have h9 : w2.heap.size ≤ w1.heap.size := hne2 _ e; omega)
      have n0 : w4.cell? ⟨wr.heap.size, 0, none⟩ = some (.int .i64 u) := hgr.cell (by simp [go_sem, d0, dz]) (fun e => hne1 _ e rfl)
      have n1 : w4.cell? ⟨wr.heap.size, 1, none⟩ = some (.int .i64 y) := hgr.cell (by simp [go_sem, d1, dz]) (fun e => hne1 _ e rfl)
      have hz4 : w2.heap.size ≤ w4.heap.size := by have := hgr.size; simp at this; omega
      have hz14 : w1.heap.size < w4.heap.size := by omega
      have hbel4 : Below w.heap.size w w4 := by
        refine (show Below w.heap.size w _ by exact ((balloc (balloc hbel3 _) _))).grown hgr ?_ (fun g e => ?_)
        · have := ha2s; simp; omega
        · have := hne2 _ e.symm; omega
      have hQ4 : LiesG 2 fAmt w4 ⟨gq, 0, none⟩ cq Q := by
        refine liesG_grown (liesG_below hQ3.out ((((Below.refl _ _).alloc (Nat.le_refl _) (.cells #[.int .i64 gx, .int .i64 gy] 101)).alloc (by simp) (.cells #[.int .i64 gx, .int .i64 gy] 101)))) hgr (fun e => ?_)
        have := hne2 _ e
        simp at this
        omega
      have hown4 : w4.ownsRow w2.heap.size 101 2 v' TU.length (cellsG fAmt TU) := by
        rw [hdif.out, cellsG_snoc, List.length_append]; simpa [fAmt] using hown'
      have hvne : v'.ownBlock ≠ some w1.heap.size := fun e => by have := own_block hown4 e; omega
      have hQ5 := Lib.hid hQ4
      clear hown' hgr hown3 hQ3 hQ4 hbel3 hne1 hne2 k0 k1 k2 k3 d0 d1 hnil
      go_wp2
      go_roundw
      case rel =>
        refine ⟨j + 1, (u, y), by omega, by go_num, hbn, by simp [go_sem, m0, m1, hz14], by simp [go_sem, m0, m1, hz14], by simp [go_sem, m2, hz14], by simp [go_sem, m3, hz14], by simp; omega, ?_, ?_, ?_⟩
        · exact Lib.hid (liesG_set (liesG_set hQ5.out (p := ⟨w1.heap.size, 0, none⟩) (by simp; omega) _) (p := ⟨w1.heap.size, 1, none⟩) (by simp; omega) _)
        · rw [hTU.out]
          exact own_set (own_set hown4 hvne _) hvne _
        · exact bset (bset hbel4 (by simp; omega) _) (by simp; omega) _
      case measure => simp [intOf]; omega
    · have hjl : j = Q.length := by omega
      subst hjl
      have hGfull : G.take Q.length = G := List.take_of_length_le (by omega)
      clear c0 c1 c2 c3 hQ hb
      go_wp2
      go_ret
      refine ⟨.slice av (G.take Q.length).length cv, rfl, ?_, hbel⟩
      rw [hGfull] at hown ⊢
      exact own_mono hown (by omega)

end Go.Proofs.Ytiafmojmanhdoaa

/- Roads: the places of the model. -/
namespace Go.Proofs.Ytiafmojmanhdoaa
open Go.ChangeShapes Go.WideShapes Go.ChangeAt Go.RowKit Go.Joins
set_option maxRecDepth 100000
set_option linter.unusedVariables false
set_option linter.unusedSimpArgs false


end Go.Proofs.Ytiafmojmanhdoaa

/- Roads: with how few stops each place can be come to, of the model. -/
namespace Go.Proofs.Ytiafmojmanhdoaa
open Go.ChangeShapes Go.WideShapes Go.ChangeAt Go.RowKit Go.Joins
set_option maxRecDepth 100000
set_option linter.unusedVariables false
set_option linter.unusedSimpArgs false


theorem cInt_get {l : List Int} {k : Nat} {x : Int} (h : l[k]? = some x) : (cellsG fInt l)[k]? = some (.int .i64 x) := by
  have := cellsG_get fInt_len l k x h 0 x rfl
  rw [Nat.mul_one, Nat.add_zero] at this
  exact this
theorem cInt_is (l : List Int) : cellsG fInt l = l.map (Value.int .i64) := by
  induction l with
  | nil => rfl
  | cons a l ih => rw [cellsG_cons, ih]; rfl
theorem cInt_set (l : List Int) (k : Nat) (u : Int) : (cellsG fInt l).set k (.int .i64 u) = cellsG fInt (l.set k u) := by
  rw [cInt_is, cInt_is, List.map_set]
theorem cInt_made (n : Nat) : (madeCells #[Value.int .i64 0] n).toList = cellsG fInt (List.replicate n 0) := by
  rw [cInt_is]
  apply List.ext_getElem?
  intro i
  by_cases hi : i < n
  · simp [madeCells, Value.cells, hi, Nat.mod_one]
  · simp [madeCells, Value.cells, hi]
/-- What stands in the list while the place number i is looked up. -/
def fwR (P : List (Int × Int)) (n i : Nat) (cur : Int) : List Int := fwF P i ++ cur :: List.replicate (n - i - 1) 0
theorem fwR_len {P : List (Int × Int)} {n i : Nat} {cur : Int} (h : i < n) : (fwR P n i cur).length = n := by simp [fwR, fwF_len]; omega
theorem fwR_at {P : List (Int × Int)} {n i : Nat} {cur : Int} : (fwR P n i cur)[i]? = some cur := by
  unfold fwR
  rw [List.getElem?_append_right (by rw [fwF_len]; exact Nat.le_refl _), fwF_len]; simp
theorem fwR_lt {P : List (Int × Int)} {n i k : Nat} {cur : Int} (h : k < i) : (fwR P n i cur)[k]? = some (fw P k) := by
  unfold fwR
  rw [List.getElem?_append_left (by rw [fwF_len]; exact h)]
  have h1 := fwF_fw (P := P) h
  rw [List.getD_eq_getElem?_getD] at h1
  rw [List.getElem?_eq_getElem (by rw [fwF_len]; exact h)] at h1 ⊢
  simp at h1
  rw [h1]
theorem fwR_set {P : List (Int × Int)} {n i : Nat} {cur u : Int} : (fwR P n i cur).set i u = fwR P n i u := by
  unfold fwR
  rw [List.set_append_right _ _ (by rw [fwF_len]; exact Nat.le_refl _), fwF_len]; simp
theorem fwR_start {P : List (Int × Int)} {n i : Nat} (h : i < n) : fwF P i ++ List.replicate (n - i) 0 = fwR P n i 0 := by
  unfold fwR
  rw [show n - i = (n - i - 1) + 1 by omega, List.replicate_succ, show n - i - 1 + 1 - 1 = n - i - 1 by omega]
theorem fwR_end {P : List (Int × Int)} {n i : Nat} (h : i < n) (h0 : 0 < i) : fwR P n i (fwC P (fwF P i) i i) = fwF P (i + 1) ++ List.replicate (n - (i + 1)) 0 := by
  unfold fwR
  rw [fwF, fwV, if_neg (by omega), List.append_assoc]
  rfl
end Go.Proofs.Ytiafmojmanhdoaa
