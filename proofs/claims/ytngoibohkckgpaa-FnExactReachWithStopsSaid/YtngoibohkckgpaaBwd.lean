/- slices.Backward over amounts: what comes, and when. -/
import Derived.Test.YtngoibohkckgpaaAddUp
import Derived.Test.YtngoibohkckgpaaRowS
import Derived.Test.YtngoibohkckgpaaBlk
import Derived.RangeFuncNested
import Derived.RangeFuncBound
import Derived.RangeFuncCalls
import Derived.RangeFuncLeaves
import Derived.Shelf.Abstract
import Derived.Shelf.RegionOpen
import Derived.WalkKit
import Derived.OwnWalkIn
import Derived.TacticsInMore
import Derived.LoopNIn
import Derived.LoopIn
namespace Go.Proofs.Ytngoibohkckgpaa
open Go.Shelf Go.ChangeShapes Go.WideShapes Go.ChangeAt Go.RowKit Go.Joins
set_option maxRecDepth 100000
set_option linter.unusedVariables false
set_option linter.unusedSimpArgs false

attribute [local go_sem] Oper.semAt_some

/-- What comes: the last first, each with its index. -/
def bwU (l : List (Int × Int)) (k : Nat) : List (Nat × (Int × Int)) := (List.range k).map fun j => (l.length - 1 - j, l.getD (l.length - 1 - j) (0, 0))
theorem bwU_succ (l : List (Int × Int)) (k : Nat) : bwU l (k + 1) = bwU l k ++ [(l.length - 1 - k, l.getD (l.length - 1 - k) (0, 0))] := by simp [bwU, List.range_succ]
theorem bwU_len (l : List (Int × Int)) (k : Nat) : (bwU l k).length = k := by simp [bwU]
theorem bwU_mem {l : List (Int × Int)} {k : Nat} (hk : k ≤ l.length) {x : Nat × (Int × Int)} : x ∈ bwU l k ↔ (l.length - k ≤ x.1 ∧ x.1 < l.length ∧ x.2 = l.getD x.1 (0, 0)) := by
  simp only [bwU, List.mem_map, List.mem_range]
  constructor
  · rintro ⟨j, hj, rfl⟩
    exact ⟨by simp; omega, by simp; omega, rfl⟩
  · rintro ⟨h1, h2, h3⟩
    refine ⟨l.length - 1 - x.1, by omega, ?_⟩
    have e : l.length - 1 - (l.length - 1 - x.1) = x.1 := by omega
    rw [e, ← h3]
/-- The index, the amount: a small index, an amount. -/
def sxI (x : Nat × (Int × Int)) : Nat := min x.1 1000000
def sxA (x : Nat × (Int × Int)) : Int × Int := if amB x.2.1 x.2.2 = true then x.2 else (0, 1)
theorem sxI_le (x : Nat × (Int × Int)) : sxI x ≤ 1000000 := Nat.min_le_right _ _
theorem sxA_am (x : Nat × (Int × Int)) : amB (sxA x).1 (sxA x).2 = true := by
  unfold sxA
  split
  · assumption
  · decide
theorem sxI_is {i : Nat} {p : Int × Int} (h : i ≤ 1000000) : sxI (i, p) = i := Nat.min_eq_left h
theorem sxA_is {i : Nat} {p : Int × Int} (h : amB p.1 p.2 = true) : sxA (i, p) = p := by simp [sxA, h]
def encB (x : Nat × (Int × Int)) : Array Value := #[.int .i64 (sxI x : Int), .agg #[.int .i64 (sxA x).1, .int .i64 (sxA x).2]]
set_option maxHeartbeats 4000000 in
theorem bwd1_in (F : Fence) (n : Nat) (hf : F.fn 75) (hro : F.round = none) (hn : 1 ≤ n) (lp Bs n₀ : Nat) (a : Addr) (cap : Nat) (l : List (Int × Int)) (w0 : World) (hL : LiesG 2 fAmt w0 a cap l) (hln : l.length ≤ 1000000) (hP : ∀ p ∈ l, amB p.1 p.2 = true) (hw0 : w0.heap.size ≤ n₀) (J Jx : List (Nat × (Int × Int)) → World → Prop)
    (hY : ∀ pre x W, J pre W → pre.length < l.length → YieldAt F (n - 1) Try.prog lp (encB x) W fun e W' =>
      (e = .returned (.bool true) ∧ J (pre ++ [x]) W' ∧ Below n₀ W W') ∨ (e = .returned (.bool false) ∧ Jx (pre ++ [x]) W'))
    (W : World) (hB : Below w0.heap.size w0 W) (hBs : W.cell? ⟨Bs, 0, none⟩ = some (.slice (some a) l.length cap)) (hBl : Bs < n₀) (h0 : J [] W) :
    CallsIn F n Try.prog 75 #[.func (.yield lp) #[] #[], .pointer (some ⟨Bs, 0, none⟩)] W fun e W' => (∃ v, e = .returned v) ∧
      ((∃ ys, ys = bwU l l.length ∧ J ys W') ∨ (∃ pre, (∃ k, k ≤ l.length ∧ pre = bwU l k) ∧ Jx pre W')) := by
  have hlc := hL.hlc
  have hcap := hL.hcap
  refine callsIn_of_wp Try.func75 rfl hf ?_ hro
  simp only [Try.ntmps75, List.size_toArray, List.length_cons, List.length_nil, Nat.reduceAdd, Nat.reduceSub, Array.replicate_succ, Array.replicate_zero, List.push_toArray, List.append_toArray, List.nil_append, List.cons_append]
  gi_wp2
  gi_loopw [3] (fun i wr => ∃ r : Nat, r ≤ l.length ∧ i = .int .i64 ((r : Int) - 1) ∧ J (bwU l (l.length - r)) wr ∧ Below n₀ W wr)
    (fun i _ => (intOf i + 1).toNat)
  case atStart => exact ⟨l.length, Nat.le_refl _, rfl, by simpa [bwU] using h0, Below.refl _ _⟩
  case round =>
    obtain ⟨r, hr, rfl, hJs, hnx⟩ := hrel
    have hbs := (hnx.cell (p := ⟨Bs, 0, none⟩) hBl).trans hBs
    cases r with
    | zero =>
      have e0 : (((0 : Nat) : Int) - 1) = -1 := by omega
      rw [e0]
      rw [Nat.sub_zero] at hJs
      gi_wp2
      go_end0
      exact ⟨⟨_, rfl⟩, .inl ⟨_, rfl, hJs⟩⟩
    | succ r =>
      have e0 : (((r + 1 : Nat) : Int) - 1) = (r : Int) := by omega
      rw [e0]
      obtain ⟨p, hp⟩ : ∃ p, l[r]? = some p := ⟨_, List.getElem?_eq_getElem (by omega)⟩
      have hL2 : LiesG 2 fAmt wr a cap l := liesG_below hL (hB.trans (hnx.mono hw0))
      have hc := hL2.hcell r p hp
      have e0 := hc 0 p.1 rfl
      rw [Nat.add_zero] at e0
      have e1 : wr.cell? ⟨(a.add (r * 2)).block, (a.add (r * 2)).off + 1, none⟩ = some (.int .i64 p.2) := by
        have h := hc 1 p.2 rfl
        rw [← Deep.add_add] at h
        exact h
      clear hc
      have hpv : l.getD (l.length - 1 - (l.length - (r + 1))) (0, 0) = p := by
        rw [show l.length - 1 - (l.length - (r + 1)) = r by omega, List.getD_eq_getElem?_getD, hp]
        rfl
      obtain ⟨fn, tmps, assign, body, hy, hR⟩ := hY _ (r, p) wr hJs (by rw [bwU_len]; omega)
      have hnext : bwU l (l.length - r) = bwU l (l.length - (r + 1)) ++ [(r, p)] := by
        rw [show l.length - r = (l.length - (r + 1)) + 1 by omega, bwU_succ, hpv]
        rw [show l.length - 1 - (l.length - (r + 1)) = r by omega]
      unfold encB at hy
      rw [sxI_is (by omega), sxA_is (hP p (List.mem_of_getElem? hp))] at hy
      have hrl : r < l.length := by omega
      clear hL2 hpv hp
      gi_wp2
      refine hR.mono ?_
      rintro e W3 (⟨rfl, hJ3, hk3⟩ | ⟨rfl, hJx3⟩)
      · gi_wp2
        go_roundw
        case rel => exact ⟨r, by omega, by go_num, by rw [hnext]; exact hJ3, hnx.trans hk3⟩
        case measure => first | (simp [intOf]; done) | (simp [intOf]; omega)
      · gi_wp2
        refine bodyPost_ret (results_none rfl _ _ _) rfl ?_
        exact ⟨⟨_, rfl⟩, .inr ⟨_, ⟨l.length - r, by omega, hnext.symm⟩, hJx3⟩⟩
set_option maxHeartbeats 1000000 in
theorem bwd1_nil_in (F : Fence) (n : Nat) (hf : F.fn 75) (hro : F.round = none) (lp Bs : Nat) (J : List (Nat × (Int × Int)) → World → Prop) (W : World) (hBs : W.cell? ⟨Bs, 0, none⟩ = some (.slice none 0 0)) (h0 : J [] W) :
    CallsIn F n Try.prog 75 #[.func (.yield lp) #[] #[], .pointer (some ⟨Bs, 0, none⟩)] W fun e W' => (∃ v, e = .returned v) ∧ J [] W' := by
  refine callsIn_of_wp Try.func75 rfl hf ?_ hro
  simp only [Try.ntmps75, List.size_toArray, List.length_cons, List.length_nil, Nat.reduceAdd, Nat.reduceSub, Array.replicate_succ, Array.replicate_zero, List.push_toArray, List.append_toArray, List.nil_append, List.cons_append]
  gi_wp2
  gi_loopw [3] (fun i wr => i = .int .i64 (-1) ∧ J [] wr) (fun _ _ => 0)
  case atStart => exact ⟨rfl, h0⟩
  case round =>
    obtain ⟨rfl, hJs⟩ := hrel
    gi_wp2
    go_end0
    exact ⟨⟨_, rfl⟩, hJs⟩
set_option maxHeartbeats 1000000 in
theorem bwd_in (F : Fence) (n : Nat) (hf : F.fn 53) (hro : F.round = none) (v : Value) (w : World) (hv : ∃ a len cap, v = .slice a len cap) :
    CallsIn F n Try.prog 53 #[v] w fun e w' => e = .returned (.func (.func 75) #[] #[.pointer (some ⟨w.heap.size, 0, none⟩)]) ∧ w' = w.alloc (.cells #[v] 32) := by
  obtain ⟨a, len, cap, rfl⟩ := hv
  refine callsIn_of_wp Try.func53 rfl hf ?_ hro
  simp only [Try.ntmps53, List.size_toArray, List.length_cons, List.length_nil, Nat.reduceAdd, Nat.reduceSub, Array.replicate_succ, Array.replicate_zero, List.push_toArray, List.append_toArray, List.nil_append, List.cons_append]
  gi_wp2
  go_ret
  exact ⟨rfl, rfl⟩
/-- slices.Backward hands back what comes to every element, the last first; or to some of the last. -/
theorem bwd_stops (F : Fence) (n : Nat) (hf : F.fn 75) (hro : F.round = none) (hn : 1 ≤ n) (Bs n₀ : Nat) (v : Value) (l : List (Int × Int)) (w0 : World) (hI : RowG 2 fAmt w0 v l) (hln : l.length ≤ 1000000) (hP : ∀ p ∈ l, amB p.1 p.2 = true) (w : World) (hB : Below w0.heap.size w0 w) (hw0 : w0.heap.size ≤ n₀) (hn₀ : n₀ ≤ w.heap.size) (hBl : Bs < n₀) (hc : w.cell? ⟨Bs, 0, none⟩ = some v) :
    SeqStopsK F n Try.prog 75 #[.pointer (some ⟨Bs, 0, none⟩)] encB (Below n₀) (fun ys => ys = bwU l l.length) (fun pre => ∃ k, k ≤ l.length ∧ pre = bwU l k) l.length w := fun lp J Jx W hW _ _ hY h0 => by
  have hc' := (hW.cell (p := ⟨Bs, 0, none⟩) (by show Bs < w.heap.size; omega)).trans hc
  rcases hI with ⟨rfl, rfl⟩ | ⟨a, cap, rfl, hL⟩
  · exact (bwd1_nil_in F n hf hro lp Bs J W hc' h0).mono fun e W' ⟨he, hj⟩ => ⟨he, .inl ⟨_, rfl, hj⟩⟩
  · exact bwd1_in F n hf hro hn lp Bs n₀ a cap l w0 hL hln hP hw0 J Jx hY W (hB.trans (hW.mono (by omega))) hc' hBl h0
/-- A block told whole speaks of cells alone. -/
theorem blk_own {β : Type} (b : Nat) (t : TypeId) (f : β → Array Value) : Own (fun s W => Blk b (f s) t W) := fun s X Y row hs hg hrow =>
  hs.grown hg (fun e' => by obtain ⟨o, ho, hc⟩ := hrow b e'; rw [show X.heap[b]? = _ from hs] at ho; cases ho; cases hc)
end Go.Proofs.Ytngoibohkckgpaa
