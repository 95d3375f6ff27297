/- Several texts in one, in their order. -/
import Derived.Test.YtngoibohkckgpaaRoadJ
import Derived.Test.YtngoibohkckgpaaRoadK
import Derived.Deep.RegionHeld3
import Derived.Deep.DeepCutAuto
import Derived.Test.YtngoibohkckgpaaRoadR
import Derived.Test.YtngoibohkckgpaaBwd
import Derived.Test.YtngoibohkckgpaaApp
import Derived.Test.YtngoibohkckgpaaOInt
import Derived.ScopeJumps
import Derived.WalkMore
import Derived.Test.YtngoibohkckgpaaRoadQ
import Derived.Test.YtngoibohkckgpaaAns
import Derived.Test.YtngoibohkckgpaaRoadS
/- Roads: LongestGap of the model; the law. -/
namespace Go.Proofs.Ytngoibohkckgpaa
open Go.ChangeShapes Go.WideShapes Go.ChangeAt Go.RowKit Go.Joins
set_option maxRecDepth 100000
set_option linter.unusedVariables false
set_option linter.unusedSimpArgs false


end Go.Proofs.Ytngoibohkckgpaa

/- Roads: CanGo on both sides; the law. -/
namespace Go.Proofs.Ytngoibohkckgpaa
open Go.ChangeShapes Go.WideShapes Go.ChangeAt Go.RowKit Go.Joins
set_option maxRecDepth 100000
set_option linter.unusedVariables false
set_option linter.unusedSimpArgs false


def cgB (n d : Int) (l : List (Int × Int)) : Bool := rdB n d l && decide ((lgO n d l).1 ≤ (lgO n d l).2)
theorem plL_am {n d : Int} {l : List (Int × Int)} (h : rdB n d l = true) : ∀ p ∈ plL n d l, amB p.1 p.2 = true := by
  obtain ⟨hw, h16, hlr⟩ := rdB_1 h
  intro p hp
  simp only [plL, endL, List.mem_cons, List.mem_append, List.mem_singleton, List.not_mem_nil, or_false] at hp
  rcases hp with rfl | hp | rfl
  · exact am01
  · exact rp_am (hlr p hp)
  · exact rp_am hw
theorem am_bd {P : List (Int × Int)} (h : ∀ p ∈ P, amB p.1 p.2 = true) : ∀ p ∈ P, ∀ y ∈ fAmt p, -9223372036854775808 ≤ y ∧ y ≤ 9223372036854775807 := by
  intro p hp y hy
  have ha := am_of _ _ (h p hp)
  have q1 := ha.a
  have q2 := ha.b
  have q3 := ha.c
  have q4 := ha.d
  simp [fAmt] at hy
  omega
set_option maxHeartbeats 3200000 in
theorem weEnd_spec (n d : Int) (v : Value) (l : List (Int × Int)) (w : World) (h : RowG 2 fAmt w v l) (hrd : rdB n d l = true) :
    Calls Try.prog 32 #[.agg #[.int .i64 n, .int .i64 d, v]] w fun e w' => e = .returned (.int .i64 (fw (plL n d l) (l.length + 1))) ∧ Below w.heap.size w w' := by
  obtain ⟨hw, h16, hlr⟩ := rdB_1 hrd
  have HPl := Lib.hid (fun W (hB : Below w.heap.size w W) => places_spec n d v l W (rowG_below h hB) (by omega))
  have hPlen := plL_len n d l
  have hall := plL_am hrd
  have HB := Lib.hid (am_bd hall)
  have HF := Lib.hid (fun a cap W hL => few_spec a cap (plL n d l) hall (by omega) (by omega) W hL)
  have hlast : (fwF (plL n d l) (plL n d l).length)[l.length + 1]? = some (fw (plL n d l) (l.length + 1)) := by
    have h1 := fwF_fw (P := plL n d l) (show l.length + 1 < (plL n d l).length by omega)
    rw [List.getD_eq_getElem?_getD] at h1
    rw [List.getElem?_eq_getElem (by rw [fwF_len]; omega)] at h1 ⊢
    simp at h1
    rw [h1]
  have hlast := Lib.hid (cInt_get hlast)
  have hbd := fw_bd (plL n d l) (l.length + 1)
  have hP0 : 0 < (plL n d l).length := by omega
  have hPm : (plL n d l).length - 1 = l.length + 1 := by omega
  have hP18 : (plL n d l).length ≤ 18 := by omega
  clear h hrd hw hlr hall hPlen
  generalize fw (plL n d l) (l.length + 1) = X at *
  generalize fwF (plL n d l) (plL n d l).length = Y at *
  generalize plL n d l = P at *
  generalize l.length + 1 = m at *
  go_enter Try.func32, Try.ntmps32
  go_wp2_with fail
  refine (HPl.out _ (by (repeat (first | with_reducible exact Below.refl _ _ | with_reducible assumption | with_reducible refine balloc ?_ _ | with_reducible refine bdrew ?_ | with_reducible refine below_drewN ?_ _ | with_reducible refine bset ?_ ?_ _ | with_reducible exact Nat.le_refl _ | with_reducible refine bsize ?_ | (dsimp only; refine Nat.le_trans ?_ (Nat.le_add_right _ _)) | with_reducible refine Nat.le_trans ?_ (Nat.le_add_right _ _) | (with_reducible refine bstep ?_ (by assumption)))))).mono ?_
  rintro e w1 ⟨v1, rfl, hown1, hb1⟩
  have ha1 : Below w.heap.size w w1 := by (repeat (first | with_reducible exact Below.refl _ _ | with_reducible assumption | with_reducible refine balloc ?_ _ | with_reducible refine bdrew ?_ | with_reducible refine below_drewN ?_ _ | with_reducible refine bset ?_ ?_ _ | with_reducible exact Nat.le_refl _ | with_reducible refine bsize ?_ | (dsimp only; refine Nat.le_trans ?_ (Nat.le_add_right _ _)) | with_reducible refine Nat.le_trans ?_ (Nat.le_add_right _ _) | (with_reducible refine bstep ?_ (by assumption))))
  obtain ⟨gq, cq, rfl, _, _⟩ := own_form hown1 hP0
  have hL1 := liesG_own fAmt_len hown1 HB.out
  clear hown1 hb1 HPl
  go_wp2_with fail
  refine (HF.out _ _ _ hL1).mono ?_
  rintro e w2 ⟨v2, rfl, hown2, hb2⟩
  have ha2 := bstep ha1 hb2
  obtain ⟨gf, cf, rfl, _, _⟩ := own_form hown2 hP0
  have hc : w2.cell? ⟨gf, m, none⟩ = some (.int .i64 X) := by
    rw [hown2.cellAt m (by omega)]; exact hlast.out
  clear hown2 hL1 hb2 HF hlast
  have e1 : ((P.length : Int) - 1) = ((m : Nat) : Int) := by omega
  have e2 : IntKind.i64.wrap ((P.length : Int) - 1) = ((m : Nat) : Int) := by rw [IntWalk.i64_in _ (by omega)]; exact e1
  have i1 : (0 : Int) ≤ (m : Int) := by omega
  have i2 : (m : Int) < (P.length : Int) := by omega
  rw [← hPm] at hc e1 e2
  clear hPm
  go_wp2
  go_ret
  exact ⟨rfl, ha2⟩
theorem fits_impl (x y : Int) (w : World) :
    Calls Try.prog 63 #[.agg #[.int .i64 x, .int .i64 y]] w fun e w' => e = .returned (.bool (decide (x ≤ y))) ∧ Below w.heap.size w w' := by
  go_enter Try.func63, Try.ntmps63
  go_wp2
  go_ret
  refine ⟨rfl, ?_⟩
  (repeat (first | with_reducible exact Below.refl _ _ | with_reducible assumption | with_reducible refine balloc ?_ _ | with_reducible refine bdrew ?_ | with_reducible refine below_drewN ?_ _ | with_reducible refine bset ?_ ?_ _ | with_reducible exact Nat.le_refl _ | with_reducible refine bsize ?_ | (dsimp only; refine Nat.le_trans ?_ (Nat.le_add_right _ _)) | with_reducible refine Nat.le_trans ?_ (Nat.le_add_right _ _) | (with_reducible refine bstep ?_ (by assumption))))
set_option maxHeartbeats 1600000 in
theorem canGo_impl (n d : Int) (bn : -9223372036854775808 ≤ n ∧ n ≤ 9223372036854775807) (bd : -9223372036854775808 ≤ d ∧ d ≤ 9223372036854775807) (v : Value) (l : List (Int × Int)) (w : World) (h : RowG 2 fAmt w v l) :
    Calls Try.prog 37 #[.agg #[.int .i64 n, .int .i64 d, v]] w fun e w' => e = .returned (.tuple #[.bool (cgB n d l), .bool (rdB n d l)]) ∧ Below w.heap.size w w' := by
  have HR := Lib.hid (fun W (hB : Below w.heap.size w W) => longest_impl n d bn bd v l W (rowG_below h hB))
  unfold cgB
  clear h
  generalize lgO n d l = g at *
  obtain ⟨x, y⟩ := g
  simp only at HR ⊢
  cases hr : rdB n d l
  · rw [hr] at HR
    simp only [Bool.false_and]
    clear hr
    go_enter Try.func37, Try.ntmps37
    go_wp2_with fail
    refine (HR.out _ (by (repeat (first | with_reducible exact Below.refl _ _ | with_reducible assumption | with_reducible refine balloc ?_ _ | with_reducible refine bdrew ?_ | with_reducible refine below_drewN ?_ _ | with_reducible refine bset ?_ ?_ _ | with_reducible exact Nat.le_refl _ | with_reducible refine bsize ?_ | (dsimp only; refine Nat.le_trans ?_ (Nat.le_add_right _ _)) | with_reducible refine Nat.le_trans ?_ (Nat.le_add_right _ _) | (with_reducible refine bstep ?_ (by assumption)))))).mono ?_
    rintro e w1 ⟨rfl, hb1⟩
    go_wp2
    refine bodyPost_ret (v := .tuple #[.bool false, .bool false]) (by simp only [results, Try.results37]; go_simp) rfl ⟨rfl, ?_⟩
    (repeat (first | with_reducible exact Below.refl _ _ | with_reducible assumption | with_reducible refine balloc ?_ _ | with_reducible refine bdrew ?_ | with_reducible refine below_drewN ?_ _ | with_reducible refine bset ?_ ?_ _ | with_reducible exact Nat.le_refl _ | with_reducible refine bsize ?_ | (dsimp only; refine Nat.le_trans ?_ (Nat.le_add_right _ _)) | with_reducible refine Nat.le_trans ?_ (Nat.le_add_right _ _) | (with_reducible refine bstep ?_ (by assumption))))
  · rw [hr] at HR
    simp only [Bool.true_and]
    clear hr
    have HF := Lib.hid (fun W => fits_impl x y W)
    go_enter Try.func37, Try.ntmps37
    go_wp2_with fail
    refine (HR.out _ (by (repeat (first | with_reducible exact Below.refl _ _ | with_reducible assumption | with_reducible refine balloc ?_ _ | with_reducible refine bdrew ?_ | with_reducible refine below_drewN ?_ _ | with_reducible refine bset ?_ ?_ _ | with_reducible exact Nat.le_refl _ | with_reducible refine bsize ?_ | (dsimp only; refine Nat.le_trans ?_ (Nat.le_add_right _ _)) | with_reducible refine Nat.le_trans ?_ (Nat.le_add_right _ _) | (with_reducible refine bstep ?_ (by assumption)))))).mono ?_
    rintro e w1 ⟨rfl, hb1⟩
    have ha1 : Below w.heap.size w w1 := by (repeat (first | with_reducible exact Below.refl _ _ | with_reducible assumption | with_reducible refine balloc ?_ _ | with_reducible refine bdrew ?_ | with_reducible refine below_drewN ?_ _ | with_reducible refine bset ?_ ?_ _ | with_reducible exact Nat.le_refl _ | with_reducible refine bsize ?_ | (dsimp only; refine Nat.le_trans ?_ (Nat.le_add_right _ _)) | with_reducible refine Nat.le_trans ?_ (Nat.le_add_right _ _) | (with_reducible refine bstep ?_ (by assumption))))
    go_wp2_with fail
    refine (HF.out _).mono ?_
    rintro e w2 ⟨rfl, hb2⟩
    go_wp2
    refine bodyPost_ret (v := .tuple #[.bool (decide (x ≤ y)), .bool true]) (by simp only [results, Try.results37]; go_simp) rfl ⟨rfl, ?_⟩
    (repeat (first | with_reducible exact Below.refl _ _ | with_reducible assumption | with_reducible refine balloc ?_ _ | with_reducible refine bdrew ?_ | with_reducible refine below_drewN ?_ _ | with_reducible refine bset ?_ ?_ _ | with_reducible exact Nat.le_refl _ | with_reducible refine bsize ?_ | (dsimp only; refine Nat.le_trans ?_ (Nat.le_add_right _ _)) | with_reducible refine Nat.le_trans ?_ (Nat.le_add_right _ _) | (with_reducible refine bstep ?_ (by assumption))))
end Go.Proofs.Ytngoibohkckgpaa

/- The farthest well in reach, of the program. -/
namespace Go.Proofs.Ytngoibohkckgpaa
open Go.Shelf Go.ChangeShapes Go.WideShapes Go.ChangeAt Go.RowKit Go.Joins
set_option maxRecDepth 100000
set_option linter.unusedVariables false
set_option linter.unusedSimpArgs false

attribute [local go_sem] Oper.semAt_some

set_option maxHeartbeats 1600000 in
theorem near_impl (p q : Int × Int) (hp : amB p.1 p.2 = true) (hq : amB q.1 q.2 = true) (w : World) :
    Calls Try.prog 48 #[.agg #[.int .i64 p.1, .int .i64 p.2], .agg #[.int .i64 q.1, .int .i64 q.2]] w fun e w' => e = .returned (.bool (nrB p q)) ∧ Below w.heap.size w w' := by
  have ap := am_of _ _ hp
  have aq := am_of _ _ hq
  have bp1 := ap.a; have bp2 := ap.b; have bp3 := ap.c; have bp4 := ap.d
  have bq1 := aq.a; have bq2 := aq.b; have bq3 := aq.c; have bq4 := aq.d
  have HL := Lib.hid (fun W => minus_pub_impl q.1 q.2 p.1 p.2 (by omega) (by omega) (by omega) (by omega) W)
  have hok : okk q.1 q.2 p.1 p.2 = true := by simp [okk, hp, hq]
  rw [hok, (two_yes _ _).1, (two_yes _ _).2.1, (two_yes _ _).2.2] at HL
  cases hl : lowB (q.1 * p.2 - p.1 * q.2) (q.2 * p.2)
  · have e : nrB p q = false := by simp [nrB, hl]
    rw [hl] at HL
    rw [e]
    clear e hl hp hq hok ap aq bp1 bp2 bp3 bp4 bq1 bq2 bq3 bq4
    generalize lowN (q.1 * p.2 - p.1 * q.2) (q.2 * p.2) = gx at *
    generalize lowD (q.1 * p.2 - p.1 * q.2) (q.2 * p.2) = gy at *
    go_enter Try.func48, Try.ntmps48
    go_wp2_with fail
    refine (HL.out _).mono ?_
    rintro e w1 ⟨rfl, hb1⟩
    go_wp2
    go_ret
    refine ⟨rfl, ?_⟩
    (repeat (first | with_reducible exact Below.refl _ _ | with_reducible assumption | with_reducible refine balloc ?_ _ | with_reducible refine bdrew ?_ | with_reducible refine below_drewN ?_ _ | with_reducible refine bset ?_ ?_ _ | with_reducible exact Nat.le_refl _ | with_reducible refine bsize ?_ | (dsimp only; refine Nat.le_trans ?_ (Nat.le_add_right _ _)) | with_reducible refine Nat.le_trans ?_ (Nat.le_add_right _ _) | (with_reducible refine bstep ?_ (by assumption))))
  · have e : nrB p q = decide (lowN (q.1 * p.2 - p.1 * q.2) (q.2 * p.2) ≤ lowD (q.1 * p.2 - p.1 * q.2) (q.2 * p.2)) := by unfold nrB; rw [hl, Bool.true_and]; rfl
    rw [hl] at HL
    rw [e]
    clear e hl hp hq hok ap aq bp1 bp2 bp3 bp4 bq1 bq2 bq3 bq4
    generalize lowN (q.1 * p.2 - p.1 * q.2) (q.2 * p.2) = gx at *
    generalize lowD (q.1 * p.2 - p.1 * q.2) (q.2 * p.2) = gy at *
    have HF := Lib.hid (fun W => fits_impl gx gy W)
    go_enter Try.func48, Try.ntmps48
    go_wp2_with fail
    refine (HL.out _).mono ?_
    rintro e w1 ⟨rfl, hb1⟩
    have ha1 : Below w.heap.size w w1 := by (repeat (first | with_reducible exact Below.refl _ _ | with_reducible assumption | with_reducible refine balloc ?_ _ | with_reducible refine bdrew ?_ | with_reducible refine below_drewN ?_ _ | with_reducible refine bset ?_ ?_ _ | with_reducible exact Nat.le_refl _ | with_reducible refine bsize ?_ | (dsimp only; refine Nat.le_trans ?_ (Nat.le_add_right _ _)) | with_reducible refine Nat.le_trans ?_ (Nat.le_add_right _ _) | (with_reducible refine bstep ?_ (by assumption))))
    go_wp2_with fail
    refine (HF.out _).mono ?_
    rintro e w2 ⟨rfl, hb2⟩
    go_wp2
    go_ret
    refine ⟨rfl, ?_⟩
    (repeat (first | with_reducible exact Below.refl _ _ | with_reducible assumption | with_reducible refine balloc ?_ _ | with_reducible refine bdrew ?_ | with_reducible refine below_drewN ?_ _ | with_reducible refine bset ?_ ?_ _ | with_reducible exact Nat.le_refl _ | with_reducible refine bsize ?_ | (dsimp only; refine Nat.le_trans ?_ (Nat.le_add_right _ _)) | with_reducible refine Nat.le_trans ?_ (Nat.le_add_right _ _) | (with_reducible refine bstep ?_ (by assumption))))
/-- The last index below k that has a property. -/
def lastIx (q : Nat → Bool) : Nat → Option Nat
  | 0 => none
  | k + 1 => if q k = true then some k else lastIx q k
theorem lastIx_none {q : Nat → Bool} : ∀ {k : Nat}, (∀ i < k, q i = false) → lastIx q k = none
  | 0, _ => rfl
  | k + 1, h => by
    have h1 := h k (by omega)
    simp only [lastIx, h1]
    exact lastIx_none (fun i hi => h i (by omega))
theorem lastIx_some {q : Nat → Bool} {i : Nat} (h1 : q i = true) : ∀ {k : Nat}, i < k → (∀ j, i < j → j < k → q j = false) → lastIx q k = some i
  | 0, h, _ => by omega
  | k + 1, hi, h => by
    by_cases e : i = k
    · subst e; simp [lastIx, h1]
    · have h2 := h k (by omega) (by omega)
      simp only [lastIx, h2]
      exact lastIx_some h1 (by omega) (fun j h3 h4 => h j h3 (by omega))
/-- The farthest well in reach of a place. -/
def fwW (l : List (Int × Int)) (h : Int × Int) : Option Nat := lastIx (fun i => nrB h (l.getD i (0, 0))) l.length
def fwI (l : List (Int × Int)) (h : Int × Int) : Int := match fwW l h with | some i => (i : Int) | none => 0
def fwB (l : List (Int × Int)) (h : Int × Int) : Bool := match fwW l h with | some i => decide (l.getD i (0, 0) ≠ h) | none => false
theorem am_neq (p q : Int × Int) : ((p.1 == q.1 && p.2 == q.2) = !decide (p ≠ q)) := by
  obtain ⟨a, b⟩ := p
  obtain ⟨c, d⟩ := q
  by_cases h1 : a = c <;> by_cases h2 : b = d <;> simp [h1, h2]
set_option maxHeartbeats 6400000 in
theorem farW_impl (n d : Int) (v : Value) (l : List (Int × Int)) (h0 : Int × Int) (hh : amB h0.1 h0.2 = true) (hP : ∀ p ∈ l, amB p.1 p.2 = true) (hln : l.length ≤ 1000000) (w : World) (hrow : RowG 2 fAmt w v l) :
    Calls Try.prog 65 #[.agg #[.int .i64 n, .int .i64 d, v], .agg #[.int .i64 h0.1, .int .i64 h0.2]] w fun e w' => e = .returned (.tuple #[.int .i64 (fwI l h0), .bool (fwB l h0)]) ∧ Below w.heap.size w w' := by
  obtain ⟨h1, h2⟩ := h0
  have HN := Lib.hid (fun p hp W => near_impl (h1, h2) p hh hp W)
  simp only at hh HN ⊢
  have hI := Lib.hid hrow
  obtain ⟨av, cv, hv, hl1, hl2⟩ := row_shape hrow
  clear hrow
  have hsv : Hid (v = .slice av l.length cv) := Lib.hid hv
  clear hl1 hl2 hv
  refine (callsIn_wide (n := 3)).1 ?_
  refine callsIn_of_wp_marks Try.func65 rfl trivial ?_ rfl
  simp only [Try.ntmps65, List.size_toArray, List.length_cons, List.length_nil, Nat.reduceAdd, Nat.reduceSub, Array.replicate_succ, Array.replicate_zero, List.push_toArray, List.append_toArray, List.nil_append, List.cons_append]
  gi_wp2_with (refine ⟨trivial, ?_⟩; gi_at_call 53; refine (bwd_in Fence.wide 2 trivial rfl _ _ ⟨_, _, _, hsv.out⟩).mono ?_; rintro e w' ⟨rfl, rfl⟩)
  have b1 := (((Blk.new (w.alloc (.cells #[.int .i64 n, .int .i64 d, v] 34)) #[.int .i64 h1, .int .i64 h2] 31).alloc (.cells #[.int .i64 0] 3)).alloc (.cells #[.bool false] 4)).alloc (.cells #[v] 32)
  have b2 := ((Blk.new ((w.alloc (.cells #[.int .i64 n, .int .i64 d, v] 34)).alloc (.cells #[.int .i64 h1, .int .i64 h2] 31)) #[.int .i64 0] 3).alloc (.cells #[.bool false] 4)).alloc (.cells #[v] 32)
  have b3 := (Blk.new (((w.alloc (.cells #[.int .i64 n, .int .i64 d, v] 34)).alloc (.cells #[.int .i64 h1, .int .i64 h2] 31)).alloc (.cells #[.int .i64 0] 3)) #[.bool false] 4).alloc (.cells #[v] 32)
  have b4 := Blk.new ((((w.alloc (.cells #[.int .i64 n, .int .i64 d, v] 34)).alloc (.cells #[.int .i64 h1, .int .i64 h2] 31)).alloc (.cells #[.int .i64 0] 3)).alloc (.cells #[.bool false] 4)) #[v] 32
  simp only [World.size_alloc] at b1 b2 b3 b4
  have hB0 : Below w.heap.size w (((((w.alloc (.cells #[.int .i64 n, .int .i64 d, v] 34)).alloc (.cells #[.int .i64 h1, .int .i64 h2] 31)).alloc (.cells #[.int .i64 0] 3)).alloc (.cells #[.bool false] 4)).alloc (.cells #[v] 32)) := by (repeat (first | with_reducible exact Below.refl _ _ | with_reducible assumption | with_reducible refine balloc ?_ _ | with_reducible refine bdrew ?_ | with_reducible refine below_drewN ?_ _ | with_reducible refine bset ?_ ?_ _ | with_reducible exact Nat.le_refl _ | with_reducible refine bsize ?_ | (dsimp only; refine Nat.le_trans ?_ (Nat.le_add_right _ _)) | with_reducible refine Nat.le_trans ?_ (Nat.le_add_right _ _) | (with_reducible refine bstep ?_ (by assumption))))
  have hsz : (((((w.alloc (.cells #[.int .i64 n, .int .i64 d, v] 34)).alloc (.cells #[.int .i64 h1, .int .i64 h2] 31)).alloc (.cells #[.int .i64 0] 3)).alloc (.cells #[.bool false] 4)).alloc (.cells #[v] 32)).heap.size = w.heap.size + 5 := by simp
  obtain ⟨W0, hW0⟩ : ∃ W0, (((((w.alloc (.cells #[.int .i64 n, .int .i64 d, v] 34)).alloc (.cells #[.int .i64 h1, .int .i64 h2] 31)).alloc (.cells #[.int .i64 0] 3)).alloc (.cells #[.bool false] 4)).alloc (.cells #[v] 32)) = W0 := ⟨_, rfl⟩
  rw [hW0] at b1 b2 b3 b4 hB0 hsz ⊢
  clear hW0
  have hc4 := b4.cell 0
  simp only [List.getElem?_toArray, List.getElem?_cons_zero] at hc4
  refine wpIn_rangeFunc_ownH rfl (by omega) (gf := 75) (lb := #[.pointer (some ⟨w.heap.size + 1 + 1 + 1 + 1, 0, none⟩)]) rfl trivial (enters_of Try.func75 (by kernel_rfl) rfl)
    (bwd_stops Fence.wide 2 trivial rfl (by omega) (w.heap.size + 1 + 1 + 1 + 1) W0.heap.size v l w hI.out hln hP W0 hB0 (by omega) (Nat.le_refl _) (by omega) hc4) belowK_t (belowK_b (Nat.le_refl _)) (Below.refl _ _) (fun _ => rfl)
    (fun pre W => ((((∀ x ∈ pre, nrB (h1, h2) (sxA x) = false) ∧ Blk (w.heap.size + 1) #[.int .i64 h1, .int .i64 h2] 31 W) ∧ Blk (w.heap.size + 1 + 1) #[.int .i64 0] 3 W) ∧ Blk (w.heap.size + 1 + 1 + 1) #[.bool false] 4 W) ∧ Below W0.heap.size W0 W)
    (fun c pre W => (((c = .ret ∧ ∃ ini last, pre = ini ++ [last] ∧ (∀ x ∈ ini, nrB (h1, h2) (sxA x) = false) ∧ nrB (h1, h2) (sxA last) = true ∧ W.cell? ⟨w.heap.size + 1 + 1, 0, none⟩ = some (.int .i64 (sxI last : Int)) ∧ W.cell? ⟨w.heap.size + 1 + 1 + 1, 0, none⟩ = some (.bool (decide (sxA last ≠ (h1, h2))))))) ∧ Below w.heap.size w W)
    (OwnFrom.and (OwnFrom.and (OwnFrom.and (OwnFrom.and (ownFrom_pure _ _) (Own.from (blk_own _ _ _) _)) (Own.from (blk_own _ _ _) _)) (Own.from (blk_own _ _ _) _)) (ownFrom_below (Nat.le_refl _) (Nat.le_refl _)))
    (fun c => OwnFrom.and (Own.from (fun s A B row hs hg hr => by obtain ⟨e0, ini, last, e1, e2, e3, e4, e5⟩ := hs; exact ⟨e0, ini, last, e1, e2, e3, cell_kept e4 hg hr, cell_kept e5 hg hr⟩) _) (ownFrom_below (Nat.le_refl _) (by omega)))
    ⟨⟨⟨⟨by simp, b1⟩, b2⟩, b3⟩, Below.refl _ _⟩
    (fun x a' W => ∃ Bx, w.heap.size + 1 + 1 + 1 + 1 < Bx ∧ Blk Bx #[.int .i64 (sxA x).1, .int .i64 (sxA x).2] 31 W ∧ a' = { tmps := #[.agg #[.int .i64 n, .int .i64 d, v], .agg #[.int .i64 h1, .int .i64 h2], .pointer (some ⟨w.heap.size, 0, none⟩), .pointer (some ⟨w.heap.size + 1, 0, none⟩), .pointer (some ⟨w.heap.size + 1 + 1, 0, none⟩), .pointer (some ⟨w.heap.size + 1 + 1 + 1, 0, none⟩), .int .i64 (sxI x : Int), .pointer (some ⟨Bx, 0, none⟩), .pointer (some ⟨w.heap.size, 2, none⟩), v, .func (.func 75) #[] #[.pointer (some ⟨w.heap.size + 1 + 1 + 1 + 1, 0, none⟩)], .int .i64 (sxI x : Int), .agg #[.int .i64 (sxA x).1, .int .i64 (sxA x).2], undef, undef, undef, undef, undef, undef, undef], defers := [] })
    (fun x a' _ X Y row hs hg hr => by obtain ⟨Bx, e1, e2, e3⟩ := hs; exact ⟨Bx, e1, blk_own Bx 31 (fun (_ : Unit) => #[.int .i64 (sxA x).1, .int .i64 (sxA x).2]) () X Y row e2 hg (fun r e => (hr r e).2), e3⟩)
    ?assign ?body ?done ?stop
  case assign =>
    rintro lp pre x W K ⟨⟨⟨⟨hp, c1⟩, c2⟩, c3⟩, hB⟩ hK
    unfold encB
    gi_wp2
    exact hK _ _ ((KeepsOthers.alloc _ _).from _) ((Below.refl _ W).alloc hB.size _) ⟨⟨⟨⟨hp, c1.alloc _⟩, c2.alloc _⟩, c3.alloc _⟩, hB.alloc hB.size _⟩ ⟨W.heap.size, by have := hB.size; omega, Blk.new W _ _, rfl⟩
  case body =>
    rintro lp pre x a' W hl ⟨r, hr⟩ ⟨⟨⟨⟨hp, c1⟩, c2⟩, c3⟩, hB⟩ ⟨Bx, hBx, bX, rfl⟩ hlt
    have hW := hB.size
    have k0 := c1.cell 0
    have k1 := c1.cell 1
    have x0 := bX.cell 0
    have x1 := bX.cell 1
    simp only [List.getElem?_toArray, List.getElem?_cons_zero, List.getElem?_cons_succ] at k0 k1 x0 x1
    have HX := HN.out (sxA x) (sxA_am x)
    have HQ : ∀ W1 : World, Below W.heap.size W W1 → KeepsFrom W0.heap.size W W1 := fun W1 hb => ⟨hb.size, fun k o _ hk _ => (hb.block k (Array.getElem?_eq_some_iff.1 hk).1).trans hk⟩
    cases hq : nrB (h1, h2) (sxA x)
    · rw [hq] at HX
      have hpre : ∀ y ∈ pre ++ [x], nrB (h1, h2) (sxA y) = false := fun y hy => (List.mem_append.1 hy).elim (hp y) (fun e => by simp at e; subst e; exact hq)
      have HPRE := Lib.hid hpre
      clear hpre hp hq
      gi_wp2_with (refine ⟨trivial, ?_⟩; gi_at_call 48; refine (CallsIn.inRound lp (callsIn_wide.2 (HX _))).mono ?_; rintro e w1 ⟨rfl, hb1⟩)
      exact ⟨HQ _ hb1, hb1.mono hW, ⟨⟨⟨HPRE.out, c1.later hb1⟩, c2.later hb1⟩, c3.later hb1⟩, bstep hB hb1⟩
    · rw [hq] at HX
      have HIX := Lib.hid (And.intro hp hq)
      clear hp hq
      generalize hs : sxA x = s at *
      have HSX := Lib.hid hs
      clear hs
      generalize hix : sxI x = ix at *
      have HIXX := Lib.hid hix
      clear hix
      obtain ⟨s1, s2⟩ := s
      simp only at bX x0 x1 HX
      have hD : ∃ z : Bool, Hid (decide ((s1, s2) ≠ (h1, h2)) = z) ∧ ((z = false ∧ s1 = h1 ∧ s2 = h2) ∨ (z = true ∧ s1 = h1 ∧ ¬ s2 = h2) ∨ (z = true ∧ ¬ s1 = h1)) := by
        by_cases q1 : s1 = h1
        · by_cases q2 : s2 = h2
          · exact ⟨false, Lib.hid (by simp [q1, q2]), Or.inl ⟨rfl, q1, q2⟩⟩
          · exact ⟨true, Lib.hid (by simp [q1, q2]), Or.inr (Or.inl ⟨rfl, q1, q2⟩)⟩
        · exact ⟨true, Lib.hid (by simp [q1]), Or.inr (Or.inr ⟨rfl, q1⟩)⟩
      obtain ⟨z, hz, hD⟩ := hD
      rcases hD with ⟨rfl, rfl, rfl⟩ | ⟨rfl, rfl, q2⟩ | ⟨rfl, q1⟩
      · gi_wp2_with (refine ⟨trivial, ?_⟩; gi_at_call 48; refine (CallsIn.inRound lp (callsIn_wide.2 (HX _))).mono ?_; rintro e w1 ⟨rfl, hb1⟩; (have d1 := c1.later hb1); (have d2 := c2.later hb1); (have d3 := c3.later hb1); (have dX := bX.later hb1); (have y0 := d1.cell 0); (have y1 := d1.cell 1); (have z0 := dX.cell 0); (have z1 := dX.cell 1); (have u0 := d2.cell 0); (have u1 := d3.cell 0); (have f0 := d2.frozen 0); (have f1 := d3.frozen 0); (simp only [List.getElem?_toArray, List.getElem?_cons_zero, List.getElem?_cons_succ] at y0 y1 z0 z1 u0 u1); (have HKF := Lib.hid (HQ w1 hb1)); (have HBW := Lib.hid (bstep hB0 (bstep hB hb1))))
        clear HX HQ hB hb1 c1 c2 c3 bX d1 d2 d3 dX k0 k1 x0 x1
        gi_region
        all_goals gi_wp2
        all_goals
          have t1 : (w1.setCell ⟨w.heap.size + 1 + 1, 0, none⟩ (.int .i64 (ix : Int))).cell? ⟨w.heap.size + 1 + 1 + 1, 0, none⟩ = some (.bool false) := by rw [World.cell?_setCell_far _ _ _ _ (by simp)]; exact u1
          have t0 : (w1.setCell ⟨w.heap.size + 1 + 1, 0, none⟩ (.int .i64 (ix : Int))).cell? ⟨w.heap.size + 1 + 1, 0, none⟩ = some (.int .i64 (ix : Int)) := World.cell?_setCell_same' _ _ _ (by rw [u0]; rfl)
          exact ⟨HKF.out.trans (((KeepsOthers.setCell w1 _ _).trans (KeepsOthers.setCell _ _ _)).trans (KeepsOthers.drew _) |>.from _), ⟨rfl, pre, x, rfl, HIX.out.1, by rw [HSX.out]; exact HIX.out.2, by rw [HIXX.out]; exact (World.cell?_setCell_far _ _ _ _ (by simp)).trans t0, by rw [HSX.out, hz.out]; exact World.cell?_setCell_same' _ _ _ (by rw [t1]; rfl)⟩, bdrew (bset (bset HBW.out (by simp; omega) _) (by simp; omega) _)⟩
      · gi_wp2_with (refine ⟨trivial, ?_⟩; gi_at_call 48; refine (CallsIn.inRound lp (callsIn_wide.2 (HX _))).mono ?_; rintro e w1 ⟨rfl, hb1⟩; (have d1 := c1.later hb1); (have d2 := c2.later hb1); (have d3 := c3.later hb1); (have dX := bX.later hb1); (have y0 := d1.cell 0); (have y1 := d1.cell 1); (have z0 := dX.cell 0); (have z1 := dX.cell 1); (have u0 := d2.cell 0); (have u1 := d3.cell 0); (have f0 := d2.frozen 0); (have f1 := d3.frozen 0); (simp only [List.getElem?_toArray, List.getElem?_cons_zero, List.getElem?_cons_succ] at y0 y1 z0 z1 u0 u1); (have HKF := Lib.hid (HQ w1 hb1)); (have HBW := Lib.hid (bstep hB0 (bstep hB hb1))))
        clear HX HQ hB hb1 c1 c2 c3 bX d1 d2 d3 dX k0 k1 x0 x1
        gi_region
        all_goals gi_wp2
        all_goals
          have t1 : (w1.setCell ⟨w.heap.size + 1 + 1, 0, none⟩ (.int .i64 (ix : Int))).cell? ⟨w.heap.size + 1 + 1 + 1, 0, none⟩ = some (.bool false) := by rw [World.cell?_setCell_far _ _ _ _ (by simp)]; exact u1
          have t0 : (w1.setCell ⟨w.heap.size + 1 + 1, 0, none⟩ (.int .i64 (ix : Int))).cell? ⟨w.heap.size + 1 + 1, 0, none⟩ = some (.int .i64 (ix : Int)) := World.cell?_setCell_same' _ _ _ (by rw [u0]; rfl)
          exact ⟨HKF.out.trans (((KeepsOthers.setCell w1 _ _).trans (KeepsOthers.setCell _ _ _)).trans (KeepsOthers.drew _) |>.from _), ⟨rfl, pre, x, rfl, HIX.out.1, by rw [HSX.out]; exact HIX.out.2, by rw [HIXX.out]; exact (World.cell?_setCell_far _ _ _ _ (by simp)).trans t0, by rw [HSX.out, hz.out]; exact World.cell?_setCell_same' _ _ _ (by rw [t1]; rfl)⟩, bdrew (bset (bset HBW.out (by simp; omega) _) (by simp; omega) _)⟩
      · gi_wp2_with (refine ⟨trivial, ?_⟩; gi_at_call 48; refine (CallsIn.inRound lp (callsIn_wide.2 (HX _))).mono ?_; rintro e w1 ⟨rfl, hb1⟩; (have d1 := c1.later hb1); (have d2 := c2.later hb1); (have d3 := c3.later hb1); (have dX := bX.later hb1); (have y0 := d1.cell 0); (have y1 := d1.cell 1); (have z0 := dX.cell 0); (have z1 := dX.cell 1); (have u0 := d2.cell 0); (have u1 := d3.cell 0); (have f0 := d2.frozen 0); (have f1 := d3.frozen 0); (simp only [List.getElem?_toArray, List.getElem?_cons_zero, List.getElem?_cons_succ] at y0 y1 z0 z1 u0 u1); (have HKF := Lib.hid (HQ w1 hb1)); (have HBW := Lib.hid (bstep hB0 (bstep hB hb1))))
        clear HX HQ hB hb1 c1 c2 c3 bX d1 d2 d3 dX k0 k1 x0 x1
        gi_region
        all_goals gi_wp2
        all_goals
          have t1 : (w1.setCell ⟨w.heap.size + 1 + 1, 0, none⟩ (.int .i64 (ix : Int))).cell? ⟨w.heap.size + 1 + 1 + 1, 0, none⟩ = some (.bool false) := by rw [World.cell?_setCell_far _ _ _ _ (by simp)]; exact u1
          have t0 : (w1.setCell ⟨w.heap.size + 1 + 1, 0, none⟩ (.int .i64 (ix : Int))).cell? ⟨w.heap.size + 1 + 1, 0, none⟩ = some (.int .i64 (ix : Int)) := World.cell?_setCell_same' _ _ _ (by rw [u0]; rfl)
          exact ⟨HKF.out.trans (((KeepsOthers.setCell w1 _ _).trans (KeepsOthers.setCell _ _ _)).trans (KeepsOthers.drew _) |>.from _), ⟨rfl, pre, x, rfl, HIX.out.1, by rw [HSX.out]; exact HIX.out.2, by rw [HIXX.out]; exact (World.cell?_setCell_far _ _ _ _ (by simp)).trans t0, by rw [HSX.out, hz.out]; exact World.cell?_setCell_same' _ _ _ (by rw [t1]; rfl)⟩, bdrew (bset (bset HBW.out (by simp; omega) _) (by simp; omega) _)⟩
  case done =>
    rintro D ys W hD rfl ⟨⟨⟨⟨hp, c1⟩, c2⟩, c3⟩, hB⟩ hK
    have u0 := c2.cell 0
    have u1 := c3.cell 0
    have f0 := c2.frozen 0
    have f1 := c3.frozen 0
    simp only [List.getElem?_toArray, List.getElem?_cons_zero] at u0 u1
    have HPP := Lib.hid hp
    clear hp
    gi_wp2
    have hK' := ((KeepsOthers.setCell W ⟨w.heap.size + 1 + 1, 0, none⟩ (.int .i64 0)).trans (KeepsOthers.setCell _ ⟨w.heap.size + 1 + 1 + 1, 0, none⟩ (.bool false))).same D _ hK rfl
    refine ⟨by simp, .inl ⟨_, _, rfl, run_takeDeferred hK', ?_⟩⟩
    have t1 : (W.setCell ⟨w.heap.size + 1 + 1, 0, none⟩ (.int .i64 0)).cell? ⟨w.heap.size + 1 + 1 + 1, 0, none⟩ = some (.bool false) := by rw [World.cell?_setCell_far _ _ _ _ (by simp)]; exact u1
    have t0 : (W.setCell ⟨w.heap.size + 1 + 1, 0, none⟩ (.int .i64 0)).cell? ⟨w.heap.size + 1 + 1, 0, none⟩ = some (.int .i64 0) := World.cell?_setCell_same' _ _ _ (by rw [u0]; rfl)
    have hc5 := cell_kept ((World.cell?_setCell_far _ ⟨w.heap.size + 1 + 1 + 1, 0, none⟩ _ (.bool false) (by simp)).trans t0) (grownBy_putObj' _ D (.deferred none)) (fun r e => by cases e; exact ⟨_, hK', rfl⟩)
    have hc6 := cell_kept (World.cell?_setCell_same' (W.setCell ⟨w.heap.size + 1 + 1, 0, none⟩ (.int .i64 0)) ⟨w.heap.size + 1 + 1 + 1, 0, none⟩ (.bool false) (by rw [t1]; rfl)) (grownBy_putObj' _ D (.deferred none)) (fun r e => by cases e; exact ⟨_, hK', rfl⟩)
    have hno : fwW l (h1, h2) = none := lastIx_none (fun i hi => by
      have h := HPP.out (i, l.getD i (0, 0)) ((bwU_mem (Nat.le_refl _)).2 ⟨by omega, hi, rfl⟩)
      rw [sxA_is (hP _ (by rw [List.getD_eq_getElem?_getD, List.getElem?_eq_getElem hi]; exact List.getElem_mem hi))] at h
      exact h)
    refine ⟨.tuple #[.int .i64 0, .bool false], ?_, by simp [fwI, fwB, hno], ?_⟩
    · simp [results, Try.f65, go_sem, hc5, hc6]
    · exact (bset (bset (bstep hB0 hB) (by simp; omega) _) (by simp; omega) _).trans (belowK_b (w := w) (Nat.le_refl _) _ D _ _ (by omega) hK' rfl rfl)
  case stop =>
    rintro D c pre W hD ⟨k, hk, rfl⟩ ⟨⟨rfl, ini, last, e1, e2, e3, e4, e5⟩, hB⟩ hK
    gi_wp2
    refine ⟨by simp, .inl ⟨_, _, rfl, run_takeDeferred hK, ?_⟩⟩
    have hc5 := cell_kept e4 (grownBy_putObj' _ D (.deferred none)) (fun r e => by cases e; exact ⟨_, hK, rfl⟩)
    have hc6 := cell_kept e5 (grownBy_putObj' _ D (.deferred none)) (fun r e => by cases e; exact ⟨_, hK, rfl⟩)
    obtain ⟨k', rfl⟩ : ∃ k', k = k' + 1 := by
      cases k with
      | zero => simp [bwU] at e1
      | succ k' => exact ⟨k', rfl⟩
    rw [bwU_succ] at e1
    obtain ⟨rfl, e6⟩ := List.append_inj' e1 rfl
    have e7 : (l.length - 1 - k', l.getD (l.length - 1 - k') (0, 0)) = last := by simpa using e6
    have hii : l.length - 1 - k' < l.length := by omega
    have hga : ∀ i, i < l.length → amB (l.getD i (0, 0)).1 (l.getD i (0, 0)).2 = true := fun i hi => hP _ (by rw [List.getD_eq_getElem?_getD, List.getElem?_eq_getElem hi]; exact List.getElem_mem hi)
    have hsA : sxA last = l.getD (l.length - 1 - k') (0, 0) := by rw [← e7]; exact sxA_is (hga _ hii)
    have hsI : sxI last = l.length - 1 - k' := by rw [← e7]; exact sxI_is (by omega)
    have hw : fwW l (h1, h2) = some (l.length - 1 - k') := lastIx_some (by rw [← hsA]; exact e3) hii (fun j hj hj2 => by
      have h := e2 (j, l.getD j (0, 0)) ((bwU_mem (by omega)).2 ⟨by omega, hj2, rfl⟩)
      rw [sxA_is (hga _ hj2)] at h
      exact h)
    refine ⟨.tuple #[.int .i64 (sxI last : Int), .bool (decide (sxA last ≠ (h1, h2)))], ?_, by simp [fwI, fwB, hw, hsA, hsI], ?_⟩
    · simp [results, Try.f65, go_sem, hc5, hc6]
    · exact hB.trans (belowK_b (w := w) (Nat.le_refl _) W D _ _ (by omega) hK rfl rfl)
end Go.Proofs.Ytngoibohkckgpaa

/- A block of two cells that may be written: what a result of two cells lies in. -/
namespace Go.Proofs.Ytngoibohkckgpaa
open Go.RowKit
set_option linter.unusedVariables false
set_option linter.unusedSimpArgs false

def Res9 (b : Nat) (w : World) : Prop := ∃ x y, w.cell? ⟨b, 0, none⟩ = some x ∧ w.cell? ⟨b, 1, none⟩ = some y ∧ w.frozen? ⟨b, 0, none⟩ = false ∧ w.frozen? ⟨b, 1, none⟩ = false ∧ b < w.heap.size
theorem Res9.later {b : Nat} {w w' : World} (h : Res9 b w) (hb : Below w.heap.size w w') : Res9 b w' := by
  obtain ⟨x, y, a1, a2, a3, a4, a5⟩ := h
  exact ⟨x, y, keepa hb a5 a1, keepa hb a5 a2, keepf hb a5 a3, keepf hb a5 a4, Nat.lt_of_lt_of_le a5 hb.size⟩
theorem Res9.drew {b : Nat} {w : World} (h : Res9 b w) : Res9 b w.drew := h.later (bdrew (Below.refl _ _))
theorem Res9.alloc {b : Nat} {w : World} (h : Res9 b w) (o : Obj) : Res9 b (w.alloc o) := h.later (balloc (Below.refl _ _) o)
theorem Res9.set {b : Nat} {w : World} (h : Res9 b w) (o : Nat) (v : Value) (ho : o < 2) : Res9 b (w.setCell ⟨b, o, none⟩ v) := by
  obtain ⟨x, y, a1, a2, a3, a4, a5⟩ := h
  have hc : o = 0 ∨ o = 1 := by omega
  rcases hc with rfl | rfl
  · exact ⟨v, y, by simp [go_sem, a1, a2, a5], by simp [go_sem, a1, a2, a5], by simp [go_sem, a3], by simp [go_sem, a4], by simpa using a5⟩
  · exact ⟨x, v, by simp [go_sem, a1, a2, a5], by simp [go_sem, a1, a2, a5], by simp [go_sem, a3], by simp [go_sem, a4], by simpa using a5⟩
theorem Res9.grown {b : Nat} {w w' : World} (h : Res9 b w) {row : Option Nat} (hg : w.grownBy w' row) (hne : some b ≠ row) : Res9 b w' := by
  obtain ⟨x, y, a1, a2, a3, a4, a5⟩ := h
  exact ⟨x, y, hg.cell a1 hne, hg.cell a2 hne, grown_frozen hg a3 a5 hne, grown_frozen hg a4 a5 hne, Nat.lt_of_lt_of_le a5 hg.size⟩
theorem Res9.new (w : World) (x y : Value) (t : TypeId) : Res9 w.heap.size (w.alloc (.cells #[x, y] t)) :=
  ⟨x, y, by simp, by simp, by simp, by simp, by simp⟩
end Go.Proofs.Ytngoibohkckgpaa

/- Going on from stop to stop, of the program. -/
namespace Go.Proofs.Ytngoibohkckgpaa
open Go.ChangeShapes Go.WideShapes Go.ChangeAt Go.RowKit Go.Joins
set_option maxRecDepth 100000
set_option linter.unusedVariables false
set_option linter.unusedSimpArgs false


/-- The way to a label and the way around it, once. -/
theorem wp_scope_once {P : Program} {a : Act} {w : World} {Q : Exit → Act → World → Prop} {c rest : Code} (l : Nat) (J : Act → World → Prop) (μ : Act → World → Nat) (hf : findLabel c l = some (Code.skip.seq rest))
    (pass : ∀ a w, J a w → rest.wp P (Exit.jump l (fun a' w' => J a' w' ∧ μ a' w' < μ a w) Q) a w)
    (first : (∀ a w, J a w → rest.wp P (Exit.jump l J Q) a w) → c.wp P (Exit.jump l J Q) a w) : (Code.scope c).wp P Q a w :=
  wp_scope_jumps l J μ hf (first fun a w h => Code.wp_mono (fun e a' w' hh => by
    cases e <;> first | exact hh | exact ⟨hh.1, hh.2.1⟩) (pass a w h)) (fun a w h => wp_seq (wp_skip (pass a w h)))
def lenG (v : Value) : Nat := match v with | .slice _ n _ => n | _ => 0
/-- A place in a block that is written. -/
structure HereAt (g : Nat) (p : Int × Int) (W : World) : Prop where
  c0 : W.cell? ⟨g, 0, none⟩ = some (.int .i64 p.1)
  c1 : W.cell? ⟨g, 1, none⟩ = some (.int .i64 p.2)
  z0 : W.frozen? ⟨g, 0, none⟩ = false
  z1 : W.frozen? ⟨g, 1, none⟩ = false
  hs : g < W.heap.size
theorem HereAt.later {g : Nat} {p : Int × Int} {W W' : World} (h : HereAt g p W) (hb : Below W.heap.size W W') : HereAt g p W' :=
  ⟨keepa hb h.hs h.c0, keepa hb h.hs h.c1, keepf hb h.hs h.z0, keepf hb h.hs h.z1, Nat.lt_of_lt_of_le h.hs hb.size⟩
theorem HereAt.grown {g : Nat} {p : Int × Int} {W W' : World} (h : HereAt g p W) {row : Option Nat} (hg : W.grownBy W' row) (hne : some g ≠ row) : HereAt g p W' :=
  ⟨hg.cell h.c0 hne, hg.cell h.c1 hne, grown_frozen hg h.z0 h.hs hne, grown_frozen hg h.z1 h.hs hne, Nat.lt_of_lt_of_le h.hs hg.size⟩
theorem HereAt.new (W : World) (p : Int × Int) (t : TypeId) : HereAt W.heap.size p (W.alloc (.cells #[.int .i64 p.1, .int .i64 p.2] t)) :=
  ⟨by simp, by simp, by simp, by simp, by simp⟩
theorem HereAt.put {g : Nat} {p : Int × Int} {W : World} (h : HereAt g p W) (q : Int × Int) : HereAt g q ((W.setCell ⟨g, 0, none⟩ (.int .i64 q.1)).setCell ⟨g, 1, none⟩ (.int .i64 q.2)) := by
  have c0 := h.c0; have c1 := h.c1; have z0 := h.z0; have z1 := h.z1; have hs := h.hs
  exact ⟨by simp [go_sem, c0, c1, hs], by simp [go_sem, c0, c1, hs], by simp [go_sem, z0], by simp [go_sem, z1], by simpa using hs⟩
theorem Res9.far {b : Nat} {w : World} (h : Res9 b w) {a : Addr} (v : Value) (hne : a.block ≠ b) : Res9 b (w.setCell a v) := by
  obtain ⟨x, y, a1, a2, a3, a4, a5⟩ := h
  exact ⟨x, y, by rw [World.cell?_setCell_far _ _ _ _ hne]; exact a1, by rw [World.cell?_setCell_far _ _ _ _ hne]; exact a2, by rw [World.frozen?_setCell]; exact a3, by rw [World.frozen?_setCell]; exact a4, by simpa using a5⟩
theorem RdAt.far {g : Nat} {n d : Int} {v : Value} {W : World} (h : RdAt g n d v W) {a : Addr} (x : Value) (hne : a.block ≠ g) : RdAt g n d v (W.setCell a x) :=
  ⟨by rw [World.cell?_setCell_far _ _ _ _ hne]; exact h.1, by rw [World.cell?_setCell_far _ _ _ _ hne]; exact h.2.1, by rw [World.cell?_setCell_far _ _ _ _ hne]; exact h.2.2.1, by simpa using h.2.2.2⟩
theorem RdAt.grown9 {g : Nat} {n d : Int} {v : Value} {W W' : World} (h : RdAt g n d v W) {row : Option Nat} (hg : W.grownBy W' row) (hne : some g ≠ row) : RdAt g n d v W' :=
  ⟨hg.cell h.1 hne, hg.cell h.2.1 hne, hg.cell h.2.2.1 hne, Nat.lt_of_lt_of_le h.2.2.2 hg.size⟩
/-- Stops that are made one behind the other: the j-th one is told at the place hs j, with j made. -/
structure Goes (l : List (Int × Int)) (ws : List Int) (hs : Nat → Int × Int) (ni : Nat → Int) (nb : Nat → Bool) : Prop where
  h0 : hs 0 = (0, 1)
  go : ∀ j x, ws[j]? = some x → nb j = true ∧ ni j = x ∧ ∃ i : Nat, x = (i : Int) ∧ l[i]? = some (hs (j + 1))
  stop : nb ws.length = false
  len : ws.length ≤ 1000
  ll : l.length ≤ 1000000
/-- The state at the label. -/
structure GoSt (w W : World) (n d : Int) (v : Value) (gh : Nat) (p : Int × Int) (s : Value) (j : Nat) (xs : List Value) : Prop where
  r : RdAt w.heap.size n d v W
  o : Res9 (w.heap.size + 1) W
  h : HereAt gh p W
  hg : w.heap.size + 1 < gh
  own : W.ownsRow (gh + 1) 3 1 s j xs
  bel : Below w.heap.size w W
theorem GoSt.later {w W W' : World} {n d : Int} {v : Value} {gh : Nat} {p : Int × Int} {s : Value} {j : Nat} {xs : List Value} (g : GoSt w W n d v gh p s j xs) (hb : Below W.heap.size W W') : GoSt w W' n d v gh p s j xs :=
  ⟨g.r.later hb, g.o.later hb, g.h.later hb, g.hg, ownsRow_below g.own hb, bstep g.bel hb⟩
theorem GoSt.next {w W W' : World} {n d : Int} {v : Value} {gh : Nat} {p q : Int × Int} {s s' : Value} {j j' : Nat} {xs xs' : List Value} (g : GoSt w W n d v gh p s j xs) (hw : W.ownsRow (gh + 1) 3 1 s' j' xs → True) (hgr : W.grownBy W' s.ownBlock) (hown : W'.ownsRow (gh + 1) 3 1 s' j' xs') :
    GoSt w ((W'.setCell ⟨gh, 0, none⟩ (.int .i64 q.1)).setCell ⟨gh, 1, none⟩ (.int .i64 q.2)) n d v gh q s' j' xs' := by
  have hg := g.hg
  have hne : ∀ b, b ≤ gh → some b ≠ s.ownBlock := fun b hb e => by have := (g.own.lt b e.symm).1; omega
  have hne2 : s'.ownBlock ≠ some gh := own_ne hown (by omega)
  refine ⟨((g.r.grown9 hgr (hne _ (by omega))).far _ (by simp; omega)).far _ (by simp; omega), ((g.o.grown hgr (hne _ (by omega))).far _ (by simp; omega)).far _ (by simp; omega), (g.h.grown hgr (hne _ (Nat.le_refl _))).put q, hg, own_set (own_set hown hne2 _) hne2 _, bset (bset (g.bel.grown hgr g.bel.size (fun k e => by have := (g.own.lt k e).1; omega)) (by simp; omega) _) (by simp; omega) _⟩
set_option maxHeartbeats 6400000 in
theorem goOn_far (n d : Int) (v : Value) (l : List (Int × Int)) (ws : List Int) (hs : Nat → Int × Int) (ni : Nat → Int) (nb : Nat → Bool) (hg : Goes l ws hs ni nb) (g1 g2 : Nat) (w : World) (h : RowG 2 fAmt w v l)
    (HN0 : ∀ (j : Nat) (W : World), j ≤ ws.length → Below w.heap.size w W → Calls Try.prog 64 #[.agg #[.int .i64 (hs j).1, .int .i64 (hs j).2], .int .i64 (j : Int), .pointer (some ⟨g1, 0, none⟩), .pointer (some ⟨g2, 0, none⟩)] W fun e w' => e = .returned (.tuple #[.int .i64 (ni j), .bool (nb j)]) ∧ Below W.heap.size W w') :
    Calls Try.prog 58 #[.agg #[.int .i64 n, .int .i64 d, v], .func (.func 64) #[] #[.pointer (some ⟨g1, 0, none⟩), .pointer (some ⟨g2, 0, none⟩)]] w fun e w' => ∃ s, e = .returned (.tuple #[s, .agg #[.int .i64 (hs ws.length).1, .int .i64 (hs ws.length).2]]) ∧ w'.ownsRow w.heap.size 3 1 s ws.length (cellsG fInt ws) ∧ Below w.heap.size w w' := by
  have HN := Lib.hid HN0
  have HG := Lib.hid hg
  have HR := Lib.hid h
  have hlen := hg.len
  have h00 := hg.h0
  obtain ⟨av, cv, hv, hl1, hl2⟩ := row_shape h
  have HV := Lib.hid hv
  clear HN0 hg h hv
  obtain ⟨i0, hi, hz0, hz1, hz2⟩ := info_parts infoInt
  go_enter Try.func58, Try.ntmps58
  go_upto_region 1 with fail
  refine wp_scope_once 0 (fun a' w' => ∃ (j gh : Nat) (s u8 u9 u11 u12 u13 u14 u15 u16 u17 u18 u19 u20 u21 u22 u23 u24 u25 u26 u27 u28 u29 u30 u31 : Value), a' = { tmps := #[.agg #[.int .i64 n, .int .i64 d, v], .func (.func 64) #[] #[.pointer (some ⟨g1, 0, none⟩), .pointer (some ⟨g2, 0, none⟩)], .pointer (some ⟨w.heap.size, 0, none⟩), undef, .slice none 0 0, .pointer (some ⟨w.heap.size + 1, 0, none⟩), s, .pointer (some ⟨gh, 0, none⟩), u8, u9, .agg #[.int .i64 0, .int .i64 1], u11, u12, u13, u14, u15, u16, u17, u18, u19, u20, u21, u22, u23, u24, u25, u26, u27, u28, u29, u30, u31], defers := [] } ∧ j ≤ ws.length ∧ GoSt w w' n d v gh (hs j) s j (cellsG fInt (ws.take j))) (fun a' _ => ws.length - lenG (a'.tmps.getD 6 undef)) rfl ?pass ?first
  case first =>
    intro hfirst
    go_wp2_with (go_at_call 50; refine (whole_bi 0 _).mono ?_; rintro e w1 ⟨rfl, hb1⟩)
    go_step3
    rename_i hK
    refine hK _ _ (hfirst _ _ ⟨0, w1.heap.size, _, _, _, _, _, _, _, _, _, _, _, _, _, _, _, _, _, _, _, _, _, _, _, _, rfl, Nat.zero_le _, ?_⟩)
    have hz := hb1.size
    rw [h00]
    refine ⟨?_, ?_, HereAt.new w1 (0, 1) 31, ?_, ⟨rfl, .inl ⟨rfl, rfl⟩⟩, ?_⟩
    · exact (((RdAt.new w n d v 34).alloc _).later hb1).alloc _
    · have h := Res9.new (w.alloc (.cells #[.int .i64 n, .int .i64 d, v] 34)) (.int .i64 0) (.int .i64 0) 31
      rw [World.size_alloc] at h
      exact (h.later hb1).alloc _
    · simp at hz; omega
    · (repeat (first | with_reducible exact Below.refl _ _ | with_reducible assumption | with_reducible refine balloc ?_ _ | with_reducible refine bdrew ?_ | with_reducible refine below_drewN ?_ _ | with_reducible refine bset ?_ ?_ _ | with_reducible exact Nat.le_refl _ | with_reducible refine bsize ?_ | (dsimp only; refine Nat.le_trans ?_ (Nat.le_add_right _ _)) | with_reducible refine Nat.le_trans ?_ (Nat.le_add_right _ _) | (with_reducible refine bstep ?_ (by assumption))))
  case pass =>
    rintro a' wr ⟨j, gh, s, u8, u9, u11, u12, u13, u14, u15, u16, u17, u18, u19, u20, u21, u22, u23, u24, u25, u26, u27, u28, u29, u30, u31, rfl, hj, gs⟩
    obtain ⟨hc0, hc1, hz0', hz1', hhs⟩ := id gs.h
    by_cases hlt : j < ws.length
    · obtain ⟨x, hx⟩ : ∃ x, ws[j]? = some x := ⟨_, List.getElem?_eq_getElem hlt⟩
      obtain ⟨hnb, hni, i, hxi, hli⟩ := HG.out.go j x hx
      have HC := Lib.hid (HN.out j)
      rw [hnb, hni] at HC
      have hil : i < l.length := (List.getElem?_eq_some_iff.1 hli).1
      have hllM := HG.out.ll
      have HX := Lib.hid (And.intro hx hli)
      obtain ⟨sa9, sc9, hs0⟩ := owns_shape gs.own
      subst hs0
      subst hxi
      clear hnb hni hx hli
      have GS := Lib.hid gs
      clear gs
      go_wp2_with fail
      refine (HC.out _ hj GS.out.bel).mono ?_
      rintro e w2 ⟨rfl, hb2⟩
      have GS2 := Lib.hid (GS.out.later hb2)
      clear hc0 hc1 hz0' hz1' hhs
      have own2 := GS2.out.own
      have hz2w := GS2.out.h.hs
      have hgg := GS2.out.hg
      go_wp2_with (at_builtin; refine wpList_append_own _ rfl _ _ 28 rfl (gh + 1) 3 i0 (.int .i64 0) 1 8 Try.underlying28 hi hz0 hz1 hz2 rfl (by decide) _ _ _ rfl (own2.alloc _) ⟨w2.heap.size, 0, none⟩ 1 1 [.int .i64 (i : Int)] rfl rfl ?c1 ?c2 ?c3 ?c4 ?c5 ?_)
      case c1 => (intro q u hq; rcases q with _ | q <;> simp at hq; subst hq; simp [go_sem])
      case c2 => simp [Value.oneCell']
      case c3 => unfold maxLen; omega
      case c4 => omega
      case c5 => first | (simp; done) | (simp; omega)
      intro s3 w3 hown3 hgr3 _
      obtain ⟨sb9, sd9, rfl⟩ := owns_shape hown3
      have hgr3' : w2.grownBy w3 (Value.slice sa9 j sc9).ownBlock := grown_trans (World.grownBy_alloc w2 (.cells #[.int .i64 (i : Int)] 3) _) hgr3
      have hown4 : w3.ownsRow (gh + 1) 3 1 (.slice sb9 (j + 1) sd9) (j + 1) (cellsG fInt (ws.take (j + 1))) := by
        have e : ws.take (j + 1) = ws.take j ++ [(i : Int)] := by
          have h := HX.out.1
          obtain ⟨h1, h2⟩ := List.getElem?_eq_some_iff.1 h
          rw [List.take_add_one, h]
          rfl
        rw [e, cellsG_append]
        exact hown3
      have GN := GS2.out.next (q := hs (j + 1)) (fun _ => trivial) hgr3' hown4
      have bel3 : Below w.heap.size w w3 := GS2.out.bel.grown hgr3' GS2.out.bel.size (fun k e => by have := (GS2.out.own.lt k e).1; omega)
      have hne : ∀ b, b ≤ gh → some b ≠ (Value.slice sa9 j sc9).ownBlock := fun b hb e => by have := (GS2.out.own.lt b e.symm).1; omega
      have r3 := GS2.out.r.grown9 hgr3' (hne _ (by omega))
      have h3 := GS2.out.h.grown hgr3' (hne _ (Nat.le_refl _))
      rcases rowG_below HR.out bel3 with ⟨hv, hl⟩ | ⟨a9, cap9, hv, hL⟩
      · rw [hl] at hil; simp at hil
      · obtain ⟨p, hp⟩ : ∃ p, p = hs (j + 1) := ⟨_, rfl⟩
        have hp' : l[i]? = some p := by rw [hp]; exact HX.out.2
        rw [← hp] at GN
        have HP := Lib.hid hp
        clear hp
        have hp := hp'
        have hc := hL.hcell i p hp
        have e0 := hc 0 p.1 rfl
        rw [Nat.add_zero] at e0
        have e1 : w3.cell? ⟨(a9.add (i * 2)).block, (a9.add (i * 2)).off + 1, none⟩ = some (.int .i64 p.2) := by
          have h := hc 1 p.2 rfl
          rw [← Deep.add_add] at h
          exact h
        clear hc
        have hlc9 := hL.hlc
        have hcap9 := hL.hcap
        obtain ⟨q0, q1, q2, qz⟩ := id r3
        rw [hv] at q2
        obtain ⟨t0, t1, tz0, tz1, ths⟩ := id h3
        have GNH := Lib.hid GN
        have e8 : Hid (w3.ownsRow (gh + 1) 3 1 (.slice sb9 (j + 1) sd9) (j + 1) (cellsG fInt (ws.take (j + 1)))) := Lib.hid hown4
        clear GN hL hp hp' hown3 hown4 hgr3 hgr3' own2 hne r3 h3 bel3
        go_wp2
        go_step3
        refine ⟨rfl, ⟨j + 1, gh, .slice sb9 (j + 1) sd9, _, _, _, _, _, _, _, _, _, _, _, _, _, _, _, _, _, _, _, _, _, _, _, rfl, by omega, by rw [← HP.out]; exact GNH.out⟩, ?_⟩
        show ws.length - (j + 1) < ws.length - j
        omega
    · have hjn : j = ws.length := by omega
      subst hjn
      have HC := Lib.hid (HN.out ws.length)
      rw [HG.out.stop] at HC
      obtain ⟨sa9, sc9, hs0⟩ := owns_shape gs.own
      subst hs0
      have GS := Lib.hid gs
      clear gs
      go_wp2_with fail
      refine (HC.out _ (Nat.le_refl _) GS.out.bel).mono ?_
      rintro e w2 ⟨rfl, hb2⟩
      have GS2 := Lib.hid (GS.out.later hb2)
      clear hc0 hc1 hz0' hz1' hhs
      obtain ⟨t0, t1, tz0, tz1, ths⟩ := id GS2.out.h
      obtain ⟨rx, ry, r0, r1, rz0, rz1, rz⟩ := id GS2.out.o
      have hgg := GS2.out.hg
      go_upto_region 5 with fail
      go_region
      all_goals go_wp2
      all_goals simp only [Exit.jump]
      all_goals refine bodyPost_ret (v := .tuple #[.slice sa9 ws.length sc9, .agg #[.int .i64 (hs ws.length).1, .int .i64 (hs ws.length).2]]) (by simp only [results, Try.results58]; go_simp) rfl ?_
      all_goals
        have own2 := GS2.out.own
        rw [List.take_length] at own2
        exact ⟨_, rfl, own_mono (own_drew (own_set (own_set own2 (own_ne own2 (b := w.heap.size + 1) (by omega)) _) (own_ne own2 (b := w.heap.size + 1) (by omega)) _)) (by omega), bdrew (bset (bset GS2.out.bel (by simp) _) (by simp) _)⟩
end Go.Proofs.Ytngoibohkckgpaa

/- Roads: the greedy stops (plain). -/
namespace Go.Proofs.Ytngoibohkckgpaa
open Go.ChangeShapes Go.WideShapes Go.ChangeAt Go.RowKit Go.Joins
set_option maxRecDepth 100000
set_option linter.unusedVariables false
set_option linter.unusedSimpArgs false

theorem rd_lt {n d : Int} {l : List (Int × Int)} (h : rdB n d l = true) (h0 : 0 < l.length) : ∀ (e i : Nat) (p q : Int × Int), (plL n d l)[i]? = some p → (plL n d l)[i + e + 1]? = some q → p.1 * q.2 < q.1 * p.2 := by
  have hI : incB (plL n d l) = true := by
    unfold rdB at h
    simp [show ¬ l.length = 0 by omega] at h
    exact h.2.2
  have hM := rd_mono h
  have hlen : (plL n d l).length = l.length + 1 + 1 := plL_len n d l
  have hone : ∀ i p q, (plL n d l)[i]? = some p → (plL n d l)[i + 1]? = some q → p.1 * q.2 < q.1 * p.2 := by
    intro i p q hp hq
    have hs := hM.st i p q hp hq
    have hi := (List.getElem?_eq_some_iff.1 hq).1
    have h1 := of_decide_eq_true ((List.all_eq_true.1 hI) i (List.mem_range.2 (by omega)))
    rw [cmAt_is _ i p q hp hq, cm_lt hs.ap hs.aq] at h1
    exact h1
  intro e
  induction e with
  | zero => intro i p q hp hq; exact hone i p q hp hq
  | succ e ih =>
    intro i p q hp hq
    have hi := (List.getElem?_eq_some_iff.1 hq).1
    obtain ⟨r, hr⟩ : ∃ r, (plL n d l)[i + e + 1]? = some r := ⟨_, List.getElem?_eq_getElem (by omega)⟩
    have h1 := ih i p r hp hr
    have h2 := hone (i + e + 1) r q hr hq
    have s1 := mono_at hM (by omega : i < i + e + 1) hp hr
    have s2 := mono_at hM (by omega : i + e + 1 < i + (e + 1) + 1) hr hq
    exact ltc_trans (am_of _ _ s1.ap).c (am_of _ _ s1.aq).c (am_of _ _ s2.aq).c h1 h2
/-- The places of a road that can be gone. -/
structure CanP (n d : Int) (l : List (Int × Int)) : Prop where
  rd : rdB n d l = true
  nr : allNr (plL n d l)
theorem canP_of {n d : Int} {l : List (Int × Int)} (h : cgB n d l = true) : CanP n d l := by
  unfold cgB at h
  rw [Bool.and_eq_true, decide_eq_true_eq] at h
  refine ⟨h.1, ?_⟩
  have h1 := fw_all (rd_mono h.1) (by rw [plL_len]; omega)
  rw [plL_len, show l.length + 1 + 1 - 1 = l.length + 1 by omega] at h1
  exact h1.1 ((go_iff h.1).2 h.2)
def atP9 (n d : Int) (l : List (Int × Int)) (i : Nat) : Int × Int := (plL n d l).getD i (0, 1)
def nrI (n d : Int) (l : List (Int × Int)) (i j : Nat) : Bool := nrB (atP9 n d l i) (atP9 n d l j)
theorem atP9_get {n d : Int} {l : List (Int × Int)} {i : Nat} (h : i < l.length + 2) : (plL n d l)[i]? = some (atP9 n d l i) := by
  have hl := plL_len n d l
  rw [atP9, List.getD_eq_getElem?_getD, List.getElem?_eq_getElem (by omega)]
  rfl
theorem atP9_0 (n d : Int) (l : List (Int × Int)) : atP9 n d l 0 = (0, 1) := by simp [atP9, plL]
theorem atP9_well (n d : Int) (l : List (Int × Int)) {i : Nat} (h : i < l.length) : l[i]? = some (atP9 n d l (i + 1)) := by
  have h1 := atP9_get (n := n) (d := d) (l := l) (i := i + 1) (by omega)
  rw [plL, List.getElem?_cons_succ, endL, List.getElem?_append_left h] at h1
  exact h1
theorem atP9_last (n d : Int) (l : List (Int × Int)) : atP9 n d l (l.length + 1) = (n, d) := by
  have h1 := atP9_get (n := n) (d := d) (l := l) (i := l.length + 1) (by omega)
  rw [plL, List.getElem?_cons_succ, endL, List.getElem?_append_right (Nat.le_refl _), Nat.sub_self] at h1
  simpa using h1.symm
theorem nrI_one {n d : Int} {l : List (Int × Int)} (h : CanP n d l) {i : Nat} (hi : i < l.length + 1) : nrI n d l i (i + 1) = true :=
  h.nr i _ _ (atP9_get (by omega)) (atP9_get (by omega))
theorem nrI_less {n d : Int} {l : List (Int × Int)} (h : rdB n d l = true) {i j k : Nat} (h1 : i < j) (h2 : j ≤ k) (hk : k < l.length + 2) (hn : nrI n d l i k = true) : nrI n d l i j = true := by
  have hM := rd_mono h
  have gi := atP9_get (n := n) (d := d) (l := l) (i := i) (by omega)
  have gj := atP9_get (n := n) (d := d) (l := l) (i := j) (by omega)
  have gk := atP9_get (n := n) (d := d) (l := l) (i := k) hk
  have s1 := mono_at hM (by omega : i < k) gi gk
  have s2 := mono_at hM h1 gi gj
  have a1 := am_of _ _ s1.ap
  have a2 := am_of _ _ s1.aq
  have a3 := am_of _ _ s2.aq
  refine nr_between s1 s2 (Int.le_refl _) ?_ a1.c a1.c a3.c a2.c hn
  rcases Nat.lt_or_ge j k with hjk | hjk
  · exact (mono_at hM hjk gj gk).le
  · have e : j = k := by omega
    subst e
    exact Int.le_refl _
/-- The next place of the greedy run: the last one that is near. -/
def grN (n d : Int) (l : List (Int × Int)) (i : Nat) : Nat := (lastIx (fun j => nrI n d l i j) (l.length + 2)).getD 0
theorem lastIx_is {q : Nat → Bool} : ∀ {k i : Nat}, lastIx q k = some i → i < k ∧ q i = true ∧ ∀ j, i < j → j < k → q j = false
  | 0, _, h => by cases h
  | k + 1, i, h => by
    unfold lastIx at h
    split at h
    · next hq => injection h with h; subst h; exact ⟨by omega, hq, fun j h1 h2 => by omega⟩
    · next hq =>
      have ⟨h1, h2, h3⟩ := lastIx_is h
      refine ⟨by omega, h2, fun j h4 h5 => ?_⟩
      by_cases e : j = k
      · subst e; simpa using hq
      · exact h3 j h4 (by omega)
theorem lastIx_ex {q : Nat → Bool} {i : Nat} (h : q i = true) : ∀ {k : Nat}, i < k → ∃ j, lastIx q k = some j ∧ i ≤ j
  | 0, hi => by omega
  | k + 1, hi => by
    unfold lastIx
    split
    · exact ⟨k, rfl, by omega⟩
    · next hq =>
      have : i ≠ k := fun e => hq (e ▸ h)
      obtain ⟨j, h1, h2⟩ := lastIx_ex h (by omega : i < k)
      exact ⟨j, h1, h2⟩
structure GrN (n d : Int) (l : List (Int × Int)) (i x : Nat) : Prop where
  lt : i < x
  le : x < l.length + 1
  yes : nrI n d l i x = true
  no : ∀ j, x < j → j < l.length + 2 → nrI n d l i j = false
theorem grN_is {n d : Int} {l : List (Int × Int)} (h : CanP n d l) {i : Nat} (hi : i < l.length + 1) (hn : nrI n d l i (l.length + 1) = false) : GrN n d l i (grN n d l i) := by
  obtain ⟨j, h1, h2⟩ := lastIx_ex (q := fun j => nrI n d l i j) (nrI_one h hi) (by omega : i + 1 < l.length + 2)
  have h3 := lastIx_is h1
  have e : grN n d l i = j := by simp [grN, h1]
  rw [e]
  refine ⟨by omega, ?_, h3.2.1, h3.2.2⟩
  rcases Nat.lt_or_ge j (l.length + 1) with hj | hj
  · exact hj
  · have e2 : j = l.length + 1 := by omega
    rw [e2] at h3
    rw [hn] at h3
    exact absurd h3.2.1 (by simp)
/-- The places of the greedy run from place i on. -/
def grR (n d : Int) (l : List (Int × Int)) : Nat → Nat → List Nat
  | 0, _ => []
  | f + 1, i => if nrI n d l i (l.length + 1) = true then [] else grN n d l i :: grR n d l f (grN n d l i)
structure GrRun (n d : Int) (l : List (Int × Int)) (i : Nat) (R : List Nat) : Prop where
  st : ∀ (j x : Nat), R[j]? = some x → ∃ y : Nat, (i :: R)[j]? = some y ∧ y < l.length + 1 ∧ nrI n d l y (l.length + 1) = false ∧ x = grN n d l y
  en : ∃ y : Nat, (i :: R)[R.length]? = some y ∧ y < l.length + 1 ∧ nrI n d l y (l.length + 1) = true
  len : R.length + i ≤ l.length
theorem grR_run {n d : Int} {l : List (Int × Int)} (h : CanP n d l) : ∀ (f i : Nat), i < l.length + 1 → l.length ≤ f + i → GrRun n d l i (grR n d l f i)
  | 0, i, hi, hf => by
    have e : i = l.length := by omega
    subst e
    exact ⟨fun j x hx => by simp [grR] at hx, ⟨l.length, by simp [grR], by omega, nrI_one h (by omega)⟩, by simp [grR]⟩
  | f + 1, i, hi, hf => by
    unfold grR
    split
    · next hn => exact ⟨fun j x hx => by simp at hx, ⟨i, by simp, hi, hn⟩, by simp; omega⟩
    · next hn =>
      have hn' : nrI n d l i (l.length + 1) = false := by simpa using hn
      have hg := grN_is h hi hn'
      have hlt := hg.lt
      have hr := grR_run h f (grN n d l i) hg.le (by omega)
      refine ⟨fun j x hx => ?_, ?_, ?_⟩
      · rcases j with _ | j
        · simp at hx
          exact ⟨i, rfl, hi, hn', hx.symm⟩
        · rw [List.getElem?_cons_succ] at hx
          rw [List.getElem?_cons_succ]
          exact hr.st j x hx
      · obtain ⟨y, h1, h2⟩ := hr.en
        exact ⟨y, by rw [List.length_cons, List.getElem?_cons_succ]; exact h1, h2⟩
      · have := hr.len
        rw [List.length_cons]
        omega
/-- The greedy stops. -/
def grS (n d : Int) (l : List (Int × Int)) : List Nat := grR n d l (l.length + 1) 0
def grL (n d : Int) (l : List (Int × Int)) : List Int := if cgB n d l = true then (grS n d l).map (fun (x : Nat) => (x : Int) - 1) else []
theorem grS_run {n d : Int} {l : List (Int × Int)} (h : CanP n d l) : GrRun n d l 0 (grS n d l) := grR_run h _ 0 (by omega) (by omega)
theorem grL_len (n d : Int) (l : List (Int × Int)) : (grL n d l).length ≤ 1048576 := by
  unfold grL
  split
  · next hc =>
    have h := canP_of hc
    have h1 := (grS_run h).len
    have h2 := (rdB_1 h.rd).2.1
    rw [List.length_map]
    omega
  · simp
/-- The farthest well is the next place of the run. -/
theorem far_next {n d : Int} {l : List (Int × Int)} (h : CanP n d l) {y : Nat} (hy : y < l.length + 1) (hn : nrI n d l y (l.length + 1) = false) :
    fwI l (atP9 n d l y) = (grN n d l y : Int) - 1 ∧ fwB l (atP9 n d l y) = true ∧ l[grN n d l y - 1]? = some (atP9 n d l (grN n d l y)) ∧ 1 ≤ grN n d l y := by
  have hg := grN_is h hy hn
  have h1 := hg.lt
  have h2 := hg.le
  have h3 := hg.yes
  obtain ⟨x, hx⟩ : ∃ x, grN n d l y = x := ⟨_, rfl⟩
  have hno := hg.no
  rw [hx] at h1 h2 h3 hno ⊢
  have hwl : ∀ i, i < l.length → l.getD i (0, 0) = atP9 n d l (i + 1) := fun i hi => by
    rw [List.getD_eq_getElem?_getD, atP9_well n d l hi]
    rfl
  have hfw : fwW l (atP9 n d l y) = some (x - 1) := by
    refine lastIx_some ?_ (by omega) (fun j hj hj2 => ?_)
    · show nrB _ (l.getD (x - 1) (0, 0)) = true
      rw [hwl _ (by omega), show x - 1 + 1 = x by omega]
      exact h3
    · show nrB _ (l.getD j (0, 0)) = false
      rw [hwl _ hj2]
      exact hno (j + 1) (by omega) (by omega)
  have hne : atP9 n d l x ≠ atP9 n d l y := by
    intro e
    have hlt := rd_lt h.rd (by omega) (x - y - 1) y _ _ (atP9_get (by omega)) (by rw [show y + (x - y - 1) + 1 = x by omega]; exact atP9_get (by omega))
    rw [e] at hlt
    omega
  refine ⟨?_, ?_, ?_, by omega⟩
  · simp only [fwI, hfw]; omega
  · simp only [fwB, hfw, hwl _ (by omega : x - 1 < l.length), show x - 1 + 1 = x by omega]
    simpa using hne
  · have := atP9_well n d l (by omega : x - 1 < l.length)
    rw [show x - 1 + 1 = x by omega] at this
    exact this
end Go.Proofs.Ytngoibohkckgpaa

/- Answers that are a list and a bool, told from an earlier world on. -/
namespace Go.Proofs.Ytngoibohkckgpaa
open Go.ChangeShapes Go.WideShapes Go.ChangeAt Go.RowKit Go.Joins
set_option linter.unusedVariables false

theorem ends_at {α : Type} {f : FuncId} {args : Array Value} {ty m : Nat} {F : α → List Int} {l : List α} {b : Bool} {B W : World} (hB : Below B.heap.size B W) (h : Calls Try.prog f args W (EndG ty m F l b W)) :
    Calls Try.prog f args W fun e w' => ∃ g c, e = .returned (.tuple #[.slice (some ⟨g, 0, none⟩) l.length c, .bool b]) ∧ w'.ownsRow B.heap.size ty m (.slice (some ⟨g, 0, none⟩) l.length c) l.length (cellsG F l) ∧ Below B.heap.size B w' := by
  refine h.mono ?_
  rintro e w' ⟨g, c, rfl, hown, hb⟩
  exact ⟨g, c, rfl, own_mono hown hB.size, bstep hB hb⟩
theorem endn_at {f : FuncId} {args : Array Value} {b : Bool} {B W : World} (hB : Below B.heap.size B W) (h : Calls Try.prog f args W (EndN b W)) :
    Calls Try.prog f args W fun e w' => ∃ a c, e = .returned (.tuple #[.slice a 0 c, .bool b]) ∧ Below B.heap.size B w' := by
  refine h.mono ?_
  rintro e w' ⟨a, c, rfl, hb⟩
  exact ⟨a, c, rfl, bstep hB hb⟩
end Go.Proofs.Ytngoibohkckgpaa

/- Going as far as possible, and the greedy stops, of the program. -/
namespace Go.Proofs.Ytngoibohkckgpaa
open Go.ChangeShapes Go.WideShapes Go.ChangeAt Go.RowKit Go.Joins
set_option maxRecDepth 100000
set_option linter.unusedVariables false
set_option linter.unusedSimpArgs false


def gfS (n d most : Int) (p : Int × Int) (j : Nat) : Bool := decide ((j : Int) = most) || nrB p (n, d)
def gfI (n d most : Int) (l : List (Int × Int)) (p : Int × Int) (j : Nat) : Int := if gfS n d most p j = true then 0 else fwI l p
def gfB (n d most : Int) (l : List (Int × Int)) (p : Int × Int) (j : Nat) : Bool := if gfS n d most p j = true then false else fwB l p
set_option maxHeartbeats 3200000 in
theorem far1_impl (n d most : Int) (v : Value) (l : List (Int × Int)) (p : Int × Int) (j : Nat) (hp : amB p.1 p.2 = true) (hw : amB n d = true) (hP : ∀ q ∈ l, amB q.1 q.2 = true) (hln : l.length ≤ 1000000) (g1 g2 : Nat) (w : World) (h : RowG 2 fAmt w v l) (c : w.cell? ⟨g1, 0, none⟩ = some (.int .i64 most)) (r : RdAt g2 n d v w) :
    Calls Try.prog 64 #[.agg #[.int .i64 p.1, .int .i64 p.2], .int .i64 (j : Int), .pointer (some ⟨g1, 0, none⟩), .pointer (some ⟨g2, 0, none⟩)] w fun e w' => e = .returned (.tuple #[.int .i64 (gfI n d most l p j), .bool (gfB n d most l p j)]) ∧ Below w.heap.size w w' := by
  have HN := Lib.hid (fun W => near_impl p (n, d) hp hw W)
  have HF := Lib.hid (fun W (hB : Below w.heap.size w W) => farW_impl n d v l p hp hP hln W (rowG_below h hB))
  obtain ⟨av, cv, rfl, hl1, hl2⟩ := row_shape h
  have hg1 : g1 < w.heap.size := cell_lt c
  obtain ⟨r0, r1, r2, rz⟩ := id r
  by_cases hj : (j : Int) = most
  · have e1 : gfI n d most l p j = 0 := by simp [gfI, gfS, hj]
    have e2 : gfB n d most l p j = false := by simp [gfB, gfS, hj]
    rw [e1, e2]
    clear e1 e2 h hP
    subst hj
    go_enter Try.func64, Try.ntmps64
    go_wp2_with fail
    refine bodyPost_ret (v := .tuple #[.int .i64 0, .bool false]) (by simp only [results, Try.results64]; go_simp) rfl ?_
    exact ⟨rfl, by (repeat (first | with_reducible exact Below.refl _ _ | with_reducible assumption | with_reducible refine balloc ?_ _ | with_reducible refine bdrew ?_ | with_reducible refine below_drewN ?_ _ | with_reducible refine bset ?_ ?_ _ | with_reducible exact Nat.le_refl _ | with_reducible refine bsize ?_ | (dsimp only; refine Nat.le_trans ?_ (Nat.le_add_right _ _)) | with_reducible refine Nat.le_trans ?_ (Nat.le_add_right _ _) | (with_reducible refine bstep ?_ (by assumption))))⟩
  · have hjb : ((j : Int) == most) = false := by simpa using hj
    cases hn : nrB p (n, d)
    · have e1 : gfI n d most l p j = fwI l p := by simp [gfI, gfS, hj, hn]
      have e2 : gfB n d most l p j = fwB l p := by simp [gfB, gfS, hj, hn]
      rw [e1, e2]
      rw [hn] at HN
      clear e1 e2 h hP hj hn
      generalize fwI l p = FI at *
      generalize fwB l p = FB at *
      go_enter Try.func64, Try.ntmps64
      go_wp2_with fail
      refine (HN.out _).mono ?_
      rintro e w1 ⟨rfl, hb1⟩
      have f1 : Below w.heap.size w w1 := by (repeat (first | with_reducible exact Below.refl _ _ | with_reducible assumption | with_reducible refine balloc ?_ _ | with_reducible refine bdrew ?_ | with_reducible refine below_drewN ?_ _ | with_reducible refine bset ?_ ?_ _ | with_reducible exact Nat.le_refl _ | with_reducible refine bsize ?_ | (dsimp only; refine Nat.le_trans ?_ (Nat.le_add_right _ _)) | with_reducible refine Nat.le_trans ?_ (Nat.le_add_right _ _) | (with_reducible refine bstep ?_ (by assumption))))
      obtain ⟨kc1, kf1, kz1, ky1, kx1, kv1, ku1⟩ := bcell hb1
      have r3 := r.later f1
      obtain ⟨r0', r1', r2', rz'⟩ := id r3
      have q1_h_0 : w1.cell? ⟨w.heap.size, 0, none⟩ = some (.int .i64 p.1) := by rw [kc1 _ _ (by first | assumption | (simp; done) | (simp; omega) | omega)]; simp [go_sem]
      have r1_h_0 : w1.frozen? ⟨w.heap.size, 0, none⟩ = false := by rw [kf1 _ _ (by first | assumption | (simp; done) | (simp; omega) | omega)]; simp [go_sem]
      have q1_h_1 : w1.cell? ⟨w.heap.size, 1, none⟩ = some (.int .i64 p.2) := by rw [kc1 _ _ (by first | assumption | (simp; done) | (simp; omega) | omega)]; simp [go_sem]
      have r1_h_1 : w1.frozen? ⟨w.heap.size, 1, none⟩ = false := by rw [kf1 _ _ (by first | assumption | (simp; done) | (simp; omega) | omega)]; simp [go_sem]
      have z1_h : w.heap.size < w1.heap.size := kz1 _ (by first | assumption | (simp; done) | (simp; omega) | omega)
      clear kc1 kf1 kz1 ky1 kx1 kv1 ku1 hb1
      go_wp2_with fail
      refine (HF.out _ f1).mono ?_
      rintro e w2 ⟨rfl, hb2⟩
      go_wp2
      refine bodyPost_ret (v := .tuple #[.int .i64 FI, .bool FB]) (by simp only [results, Try.results64]; go_simp) rfl ?_
      exact ⟨rfl, bstep f1 hb2⟩
    · have e1 : gfI n d most l p j = 0 := by simp [gfI, gfS, hn]
      have e2 : gfB n d most l p j = false := by simp [gfB, gfS, hn]
      rw [e1, e2]
      rw [hn] at HN
      clear e1 e2 h hP hj hn
      go_enter Try.func64, Try.ntmps64
      go_wp2_with fail
      refine (HN.out _).mono ?_
      rintro e w1 ⟨rfl, hb1⟩
      have f1 : Below w.heap.size w w1 := by (repeat (first | with_reducible exact Below.refl _ _ | with_reducible assumption | with_reducible refine balloc ?_ _ | with_reducible refine bdrew ?_ | with_reducible refine below_drewN ?_ _ | with_reducible refine bset ?_ ?_ _ | with_reducible exact Nat.le_refl _ | with_reducible refine bsize ?_ | (dsimp only; refine Nat.le_trans ?_ (Nat.le_add_right _ _)) | with_reducible refine Nat.le_trans ?_ (Nat.le_add_right _ _) | (with_reducible refine bstep ?_ (by assumption))))
      go_wp2
      refine bodyPost_ret (v := .tuple #[.int .i64 0, .bool false]) (by simp only [results, Try.results64]; go_simp) rfl ?_
      exact ⟨rfl, f1⟩
set_option maxHeartbeats 1600000 in
theorem goFar_impl (n d most : Int) (v : Value) (l : List (Int × Int)) (hw : amB n d = true) (hP : ∀ q ∈ l, amB q.1 q.2 = true) (ws : List Int) (hs : Nat → Int × Int) (ha : ∀ j, j ≤ ws.length → amB (hs j).1 (hs j).2 = true)
    (hg : Goes l ws hs (fun j => gfI n d most l (hs j) j) (fun j => gfB n d most l (hs j) j)) (w : World) (h : RowG 2 fAmt w v l) :
    Calls Try.prog 38 #[.agg #[.int .i64 n, .int .i64 d, v], .int .i64 most] w fun e w' => ∃ s, e = .returned (.tuple #[s, .agg #[.int .i64 (hs ws.length).1, .int .i64 (hs ws.length).2]]) ∧ w'.ownsRow w.heap.size 3 1 s ws.length (cellsG fInt ws) ∧ Below w.heap.size w w' := by
  have hmf : ∀ (fn : Fn) (first cap : Array Value) (w : World), (Instr.makeFunc fn first cap).run Try.prog w = .ok (.func fn first cap) w := fun _ _ _ _ => rfl
  have HGO := Lib.hid (fun (W : World) (hB : Below w.heap.size w W) (g1 g2 : Nat) (c : W.cell? ⟨g1, 0, none⟩ = some (.int .i64 most)) (r : RdAt g2 n d v W) =>
    goOn_far n d v l ws hs _ _ hg g1 g2 W (rowG_below h hB) (fun j W2 hj hB2 => far1_impl n d most v l (hs j) j (ha j hj) hw hP hg.ll g1 g2 W2 (rowG_below (rowG_below h hB) hB2) (keepa hB2 (cell_lt c) c) (r.later hB2)))
  obtain ⟨av, cv, rfl, hl1, hl2⟩ := row_shape h
  clear h hg ha hP
  generalize (hs ws.length) = q at *
  go_enter Try.func38, Try.ntmps38
  go_wp2_with fail
  refine (HGO.out _ (by (repeat (first | with_reducible exact Below.refl _ _ | with_reducible assumption | with_reducible refine balloc ?_ _ | with_reducible refine bdrew ?_ | with_reducible refine below_drewN ?_ _ | with_reducible refine bset ?_ ?_ _ | with_reducible exact Nat.le_refl _ | with_reducible refine bsize ?_ | (dsimp only; refine Nat.le_trans ?_ (Nat.le_add_right _ _)) | with_reducible refine Nat.le_trans ?_ (Nat.le_add_right _ _) | (with_reducible refine bstep ?_ (by assumption))))) (w.heap.size + 1) w.heap.size (by simp [go_sem]) (((RdAt.new w n d _ _).alloc _).alloc _)).mono ?_
  rintro e w1 ⟨s, rfl, hown, hb1⟩
  obtain ⟨sa, sc, rfl⟩ := owns_shape hown
  have f1 : Below w.heap.size w w1 := by (repeat (first | with_reducible exact Below.refl _ _ | with_reducible assumption | with_reducible refine balloc ?_ _ | with_reducible refine bdrew ?_ | with_reducible refine below_drewN ?_ _ | with_reducible refine bset ?_ ?_ _ | with_reducible exact Nat.le_refl _ | with_reducible refine bsize ?_ | (dsimp only; refine Nat.le_trans ?_ (Nat.le_add_right _ _)) | with_reducible refine Nat.le_trans ?_ (Nat.le_add_right _ _) | (with_reducible refine bstep ?_ (by assumption))))
  have hr := Res9.later (by have h := Res9.new ((w.alloc (.cells #[.int .i64 n, .int .i64 d, .slice av l.length cv] 34)).alloc (.cells #[.int .i64 most] 3)) (.int .i64 0) (.int .i64 0) 31; simp only [World.size_alloc] at h; exact h) hb1
  obtain ⟨rx, ry, r0, r1, rz0, rz1, rz⟩ := hr
  go_wp2
  refine bodyPost_ret (v := .tuple #[.slice sa ws.length sc, .agg #[.int .i64 q.1, .int .i64 q.2]]) (by simp only [results, Try.results38]; go_simp) rfl ?_
  exact ⟨_, rfl, own_set (own_set (own_mono hown (by first | (simp; done) | (simp; omega))) (own_ne hown (b := w.heap.size + 1 + 1) (by first | (simp; done) | (simp; omega))) _) (own_ne hown (b := w.heap.size + 1 + 1) (by first | (simp; done) | (simp; omega))) _, by (repeat (first | with_reducible exact Below.refl _ _ | with_reducible assumption | with_reducible refine balloc ?_ _ | with_reducible refine bdrew ?_ | with_reducible refine below_drewN ?_ _ | with_reducible refine bset ?_ ?_ _ | with_reducible exact Nat.le_refl _ | with_reducible refine bsize ?_ | (dsimp only; refine Nat.le_trans ?_ (Nat.le_add_right _ _)) | with_reducible refine Nat.le_trans ?_ (Nat.le_add_right _ _) | (with_reducible refine bstep ?_ (by assumption))))⟩
def grW (n d : Int) (l : List (Int × Int)) : List Int := (grS n d l).map (fun (x : Nat) => (x : Int) - 1)
def grH (n d : Int) (l : List (Int × Int)) (j : Nat) : Int × Int := atP9 n d l ((0 :: grS n d l).getD j 0)
theorem grH_am {n d : Int} {l : List (Int × Int)} (h : CanP n d l) (j : Nat) (hj : j ≤ (grW n d l).length) : amB (grH n d l j).1 (grH n d l j).2 = true := by
  have hR := grS_run h
  rw [grW, List.length_map] at hj
  have hlt : (0 :: grS n d l).getD j 0 < l.length + 2 := by
    rcases j with _ | j
    · simp
    · obtain ⟨x, hx⟩ : ∃ x, (grS n d l)[j]? = some x := ⟨_, List.getElem?_eq_getElem (by omega)⟩
      obtain ⟨y, _, hy, hn, e⟩ := hR.st j x hx
      have := (grN_is h hy hn).le
      have e2 : (0 :: grS n d l).getD (j + 1) 0 = x := by rw [List.getD_eq_getElem?_getD, List.getElem?_cons_succ, hx]; rfl
      omega
  exact (mono_am (rd_mono h.rd) (atP9_get hlt) (by rw [plL_len]; omega)).1
theorem gr_goes {n d : Int} {l : List (Int × Int)} (h : CanP n d l) : Goes l (grW n d l) (grH n d l) (fun j => gfI n d 16 l (grH n d l j) j) (fun j => gfB n d 16 l (grH n d l j) j) := by
  have hR := grS_run h
  have hl := hR.len
  have h16 := (rdB_1 h.rd).2.1
  have hat : ∀ (j y : Nat), (0 :: grS n d l)[j]? = some y → grH n d l j = atP9 n d l y := fun j y hy => by
    rw [grH, List.getD_eq_getElem?_getD, hy]
    rfl
  refine ⟨by simp [grH, atP9_0], fun j x hx => ?_, ?_, by rw [grW, List.length_map]; omega, by omega⟩
  · rw [grW, List.getElem?_map] at hx
    obtain ⟨X, hX, rfl⟩ := Option.map_eq_some_iff.1 hx
    obtain ⟨y, hy0, hy, hn, hxe⟩ := hR.st j X hX
    have hjl := (List.getElem?_eq_some_iff.1 hX).1
    obtain ⟨f1, f2, f3, f4⟩ := far_next h hy hn
    rw [← hxe] at f1 f3 f4
    have hS : gfS n d 16 (atP9 n d l y) j = false := by
      have e : nrB (atP9 n d l y) (n, d) = false := by rw [← atP9_last n d l]; exact hn
      simp [gfS, e]
      omega
    have hX1 : (0 :: grS n d l)[j + 1]? = some X := by rw [List.getElem?_cons_succ]; exact hX
    refine ⟨?_, ?_, X - 1, by omega, ?_⟩
    · show gfB n d 16 l (grH n d l j) j = true
      rw [hat j y hy0, gfB, hS, if_neg (by simp)]
      exact f2
    · show gfI n d 16 l (grH n d l j) j = _
      rw [hat j y hy0, gfI, hS, if_neg (by simp)]
      exact f1
    · rw [hat (j + 1) X hX1]
      exact f3
  · obtain ⟨y, hy0, hy, hn⟩ := hR.en
    have hlen : (grW n d l).length = (grS n d l).length := by rw [grW, List.length_map]
    rw [hlen, hat _ y hy0, gfB]
    have hS : gfS n d 16 (atP9 n d l y) (grS n d l).length = true := by
      have e : nrB (atP9 n d l y) (n, d) = true := by rw [← atP9_last n d l]; exact hn
      simp [gfS, e]
    rw [if_pos hS]
set_option maxHeartbeats 3200000 in
theorem greedy_impl (n d : Int) (bn : (-9223372036854775808 ≤ n ∧ n ≤ 9223372036854775807)) (bd : (-9223372036854775808 ≤ d ∧ d ≤ 9223372036854775807)) (v : Value) (l : List (Int × Int)) (w : World) (h : RowG 2 fAmt w v l) :
    Calls Try.prog 12 #[.agg #[.int .i64 n, .int .i64 d, v]] w (AnsG 3 1 fInt (grL n d l) (cgB n d l) w) := by
  have HC := Lib.hid (fun (W : World) (hB : Below w.heap.size w W) => canGo_impl n d bn bd v l W (rowG_below h hB))
  cases hc : cgB n d l
  · have e : grL n d l = [] := by simp [grL, hc]
    rw [e]
    rw [hc] at HC
    obtain ⟨av, cv, rfl, hl1, hl2⟩ := row_shape h
    clear h e hc
    generalize rdB n d l = rb at *
    go_enter Try.func12, Try.ntmps12
    go_wp2_with fail
    refine (HC.out _ (by (repeat (first | with_reducible exact Below.refl _ _ | with_reducible assumption | with_reducible refine balloc ?_ _ | with_reducible refine bdrew ?_ | with_reducible refine below_drewN ?_ _ | with_reducible refine bset ?_ ?_ _ | with_reducible exact Nat.le_refl _ | with_reducible refine bsize ?_ | (dsimp only; refine Nat.le_trans ?_ (Nat.le_add_right _ _)) | with_reducible refine Nat.le_trans ?_ (Nat.le_add_right _ _) | (with_reducible refine bstep ?_ (by assumption)))))).mono ?_
    rintro e w1 ⟨rfl, hb1⟩
    go_wp2
    refine bodyPost_ret (v := .tuple #[.slice none 0 0, .bool false]) (by simp only [results, Try.results12]; go_simp) rfl ?_
    exact ans_owns rfl ⟨rfl, Or.inl ⟨rfl, rfl⟩⟩ (by (repeat (first | with_reducible exact Below.refl _ _ | with_reducible assumption | with_reducible refine balloc ?_ _ | with_reducible refine bdrew ?_ | with_reducible refine below_drewN ?_ _ | with_reducible refine bset ?_ ?_ _ | with_reducible exact Nat.le_refl _ | with_reducible refine bsize ?_ | (dsimp only; refine Nat.le_trans ?_ (Nat.le_add_right _ _)) | with_reducible refine Nat.le_trans ?_ (Nat.le_add_right _ _) | (with_reducible refine bstep ?_ (by assumption)))))
  · have hcan := canP_of hc
    have e : grL n d l = grW n d l := by simp [grL, grW, hc]
    rw [e]
    rw [hc] at HC
    have hAm := plL_am hcan.rd
    have hw : amB n d = true := rp_am (rdB_1 hcan.rd).1
    have hP : ∀ q ∈ l, amB q.1 q.2 = true := fun q hq => rp_am ((rdB_1 hcan.rd).2.2 q hq)
    have HG := Lib.hid (fun (W : World) (hB : Below w.heap.size w W) => goFar_impl n d 16 v l hw hP (grW n d l) (grH n d l) (grH_am hcan) (gr_goes hcan) W (rowG_below h hB))
    obtain ⟨av, cv, rfl, hl1, hl2⟩ := row_shape h
    clear h e hc hcan hAm hP
    generalize rdB n d l = rb at *
    generalize grH n d l (grW n d l).length = q at *
    generalize grW n d l = ws at *
    go_enter Try.func12, Try.ntmps12
    go_wp2_with fail
    refine (HC.out _ (by (repeat (first | with_reducible exact Below.refl _ _ | with_reducible assumption | with_reducible refine balloc ?_ _ | with_reducible refine bdrew ?_ | with_reducible refine below_drewN ?_ _ | with_reducible refine bset ?_ ?_ _ | with_reducible exact Nat.le_refl _ | with_reducible refine bsize ?_ | (dsimp only; refine Nat.le_trans ?_ (Nat.le_add_right _ _)) | with_reducible refine Nat.le_trans ?_ (Nat.le_add_right _ _) | (with_reducible refine bstep ?_ (by assumption)))))).mono ?_
    rintro e w1 ⟨rfl, hb1⟩
    have f1 : Below w.heap.size w w1 := by (repeat (first | with_reducible exact Below.refl _ _ | with_reducible assumption | with_reducible refine balloc ?_ _ | with_reducible refine bdrew ?_ | with_reducible refine below_drewN ?_ _ | with_reducible refine bset ?_ ?_ _ | with_reducible exact Nat.le_refl _ | with_reducible refine bsize ?_ | (dsimp only; refine Nat.le_trans ?_ (Nat.le_add_right _ _)) | with_reducible refine Nat.le_trans ?_ (Nat.le_add_right _ _) | (with_reducible refine bstep ?_ (by assumption))))
    obtain ⟨r0, r1, r2, rz⟩ := (RdAt.new w n d (.slice av l.length cv) 34).later hb1
    go_wp2_with fail
    refine (HG.out _ f1).mono ?_
    rintro e w2 ⟨s, rfl, hown, hb2⟩
    obtain ⟨sa, sc, rfl⟩ := owns_shape hown
    have f2 : Below w.heap.size w w2 := bstep f1 hb2
    go_wp2
    refine bodyPost_ret (v := .tuple #[.slice sa ws.length sc, .bool true]) (by simp only [results, Try.results12]; go_simp) rfl ?_
    exact ans_owns rfl (own_mono (own_alloc hown _) f1.size) (by (repeat (first | with_reducible exact Below.refl _ _ | with_reducible assumption | with_reducible refine balloc ?_ _ | with_reducible refine bdrew ?_ | with_reducible refine below_drewN ?_ _ | with_reducible refine bset ?_ ?_ _ | with_reducible exact Nat.le_refl _ | with_reducible refine bsize ?_ | (dsimp only; refine Nat.le_trans ?_ (Nat.le_add_right _ _)) | with_reducible refine Nat.le_trans ?_ (Nat.le_add_right _ _) | (with_reducible refine bstep ?_ (by assumption)))))
end Go.Proofs.Ytngoibohkckgpaa

/- The greedy stops, of the model. -/
namespace Go.Proofs.Ytngoibohkckgpaa
open Go.ChangeShapes Go.WideShapes Go.ChangeAt Go.RowKit Go.Joins
set_option maxRecDepth 100000
set_option linter.unusedVariables false
set_option linter.unusedSimpArgs false


/-- The j-th place of the run, as the number of the place. -/
def grA (n d : Int) (l : List (Int × Int)) (j : Nat) : Nat := (0 :: grS n d l).getD j 0
structure GrAt (n d : Int) (l : List (Int × Int)) (N k : Nat) (a : Nat → Nat) : Prop where
  a0 : a 0 = 0
  lt : ∀ j, j ≤ k → a j < N - 1
  step : ∀ j, j < k → nrI n d l (a j) (N - 1) = false ∧ a j < a (j + 1) ∧ (∀ i, a j < i → i ≤ a (j + 1) → nrI n d l (a j) i = true) ∧ (∀ i, a (j + 1) < i → i < N → nrI n d l (a j) i = false)
  stop : nrI n d l (a k) (N - 1) = true
  kl : k ≤ 100
  nl : N ≤ 18
  n2 : 2 ≤ N
  len : N = l.length + 2
theorem grA_at {n d : Int} {l : List (Int × Int)} (h : CanP n d l) : GrAt n d l (l.length + 2) (grS n d l).length (grA n d l) := by
  have hR := grS_run h
  have hl := hR.len
  have h16 := (rdB_1 h.rd).2.1
  have hat : ∀ (j y : Nat), (0 :: grS n d l)[j]? = some y → grA n d l j = y := fun j y hy => by
    rw [grA, List.getD_eq_getElem?_getD, hy]
    rfl
  have hst : ∀ j, j < (grS n d l).length → grA n d l j < l.length + 1 ∧ nrI n d l (grA n d l j) (l.length + 1) = false ∧ grA n d l (j + 1) = grN n d l (grA n d l j) := fun j hj => by
    obtain ⟨x, hx⟩ : ∃ x, (grS n d l)[j]? = some x := ⟨_, List.getElem?_eq_getElem hj⟩
    obtain ⟨y, hy0, hy, hn, e⟩ := hR.st j x hx
    rw [hat j y hy0, hat (j + 1) x (by rw [List.getElem?_cons_succ]; exact hx)]
    exact ⟨hy, hn, e⟩
  obtain ⟨y, hy0, hy, hn⟩ := hR.en
  have hye := hat _ y hy0
  refine ⟨by simp [grA], fun j hj => ?_, fun j hj => ?_, ?_, by omega, by omega, by omega, rfl⟩
  · rcases Nat.lt_or_ge j (grS n d l).length with hj2 | hj2
    · have := (hst j hj2).1; omega
    · have e : j = (grS n d l).length := by omega
      subst e
      omega
  · obtain ⟨h1, h2, h3⟩ := hst j hj
    have hg := grN_is h h1 h2
    rw [show l.length + 2 - 1 = l.length + 1 by omega, h3]
    exact ⟨h2, hg.lt, fun i hi hi2 => nrI_less h.rd hi hi2 (by have := hg.le; omega) hg.yes, hg.no⟩
  · rw [hye, show l.length + 2 - 1 = l.length + 1 by omega]
    exact hn
theorem grW_take {n d : Int} {l : List (Int × Int)} {j : Nat} (hj : j < (grS n d l).length) : (grW n d l).take (j + 1) = (grW n d l).take j ++ [(grA n d l (j + 1) : Int) - 1] := by
  obtain ⟨x, hx⟩ : ∃ x, (grS n d l)[j]? = some x := ⟨_, List.getElem?_eq_getElem hj⟩
  have e : grA n d l (j + 1) = x := by rw [grA, List.getD_eq_getElem?_getD, List.getElem?_cons_succ, hx]; rfl
  have h2 : (grW n d l)[j]? = some ((x : Int) - 1) := by rw [grW, List.getElem?_map, hx]; rfl
  rw [e, List.take_add_one, h2]
  rfl
set_option maxHeartbeats 6400000 in
theorem greedy_spec (n d : Int) (bn : (-9223372036854775808 ≤ n ∧ n ≤ 9223372036854775807)) (bd : (-9223372036854775808 ≤ d ∧ d ≤ 9223372036854775807)) (v : Value) (l : List (Int × Int)) (w : World) (h : RowG 2 fAmt w v l) :
    Calls Try.prog 10 #[.agg #[.int .i64 n, .int .i64 d, v]] w (AnsG 3 1 fInt (grL n d l) (cgB n d l) w) := by
  have HR := Lib.hid (fun W (hB : Below w.heap.size w W) => weGood_spec n d bn bd v l W (rowG_below h hB))
  cases hr : rdB n d l
  · have hc : cgB n d l = false := by simp [cgB, hr]
    have e : grL n d l = [] := by simp [grL, hc]
    rw [e, hc]
    rw [hr] at HR
    obtain ⟨av, cv, rfl, hl1, hl2⟩ := row_shape h
    clear h hr hc e
    go_enter Try.func10, Try.ntmps10
    go_wp2_with fail
    refine (HR.out _ (by (repeat (first | with_reducible exact Below.refl _ _ | with_reducible assumption | with_reducible refine balloc ?_ _ | with_reducible refine bdrew ?_ | with_reducible refine below_drewN ?_ _ | with_reducible refine bset ?_ ?_ _ | with_reducible exact Nat.le_refl _ | with_reducible refine bsize ?_ | (dsimp only; refine Nat.le_trans ?_ (Nat.le_add_right _ _)) | with_reducible refine Nat.le_trans ?_ (Nat.le_add_right _ _) | (with_reducible refine bstep ?_ (by assumption)))))).mono ?_
    rintro e w1 ⟨rfl, hb1⟩
    have ha1 : Below w.heap.size w w1 := by (repeat (first | with_reducible exact Below.refl _ _ | with_reducible assumption | with_reducible refine balloc ?_ _ | with_reducible refine bdrew ?_ | with_reducible refine below_drewN ?_ _ | with_reducible refine bset ?_ ?_ _ | with_reducible exact Nat.le_refl _ | with_reducible refine bsize ?_ | (dsimp only; refine Nat.le_trans ?_ (Nat.le_add_right _ _)) | with_reducible refine Nat.le_trans ?_ (Nat.le_add_right _ _) | (with_reducible refine bstep ?_ (by assumption))))
    go_wp2
    refine bodyPost_ret (v := .tuple #[.slice none 0 0, .bool false]) (by simp only [results, Try.results10]; go_simp) rfl ?_
    exact ans_owns rfl ⟨rfl, Or.inl ⟨rfl, rfl⟩⟩ (by first | exact bstep (by with_reducible assumption) (by with_reducible assumption) | (repeat (first | with_reducible exact Below.refl _ _ | with_reducible assumption | with_reducible refine balloc ?_ _ | with_reducible refine bdrew ?_ | with_reducible refine below_drewN ?_ _ | with_reducible refine bset ?_ ?_ _ | with_reducible exact Nat.le_refl _ | with_reducible refine bsize ?_ | (dsimp only; refine Nat.le_trans ?_ (Nat.le_add_right _ _)) | with_reducible refine Nat.le_trans ?_ (Nat.le_add_right _ _) | (with_reducible refine bstep ?_ (by assumption)))))
  have HE := Lib.hid (fun W (hB : Below w.heap.size w W) => weEnd_spec n d v l W (rowG_below h hB) hr)
  have hgo := go_iff hr
  rw [hr] at HR
  by_cases hX : 0 ≤ fw (plL n d l) (l.length + 1)
  case neg =>
    have hc : cgB n d l = false := by simp only [cgB, hr, Bool.true_and, decide_eq_false_iff_not]; exact fun hh => hX (hgo.2 hh)
    have e : grL n d l = [] := by simp [grL, hc]
    rw [e, hc]
    obtain ⟨av, cv, rfl, hl1, hl2⟩ := row_shape h
    clear h hr hc e hgo
    generalize fw (plL n d l) (l.length + 1) = X at *
    have hX2 : X < 0 := by omega
    go_enter Try.func10, Try.ntmps10
    go_wp2_with fail
    refine (HR.out _ (by (repeat (first | with_reducible exact Below.refl _ _ | with_reducible assumption | with_reducible refine balloc ?_ _ | with_reducible refine bdrew ?_ | with_reducible refine below_drewN ?_ _ | with_reducible refine bset ?_ ?_ _ | with_reducible exact Nat.le_refl _ | with_reducible refine bsize ?_ | (dsimp only; refine Nat.le_trans ?_ (Nat.le_add_right _ _)) | with_reducible refine Nat.le_trans ?_ (Nat.le_add_right _ _) | (with_reducible refine bstep ?_ (by assumption)))))).mono ?_
    rintro e w1 ⟨rfl, hb1⟩
    have ha1 : Below w.heap.size w w1 := by (repeat (first | with_reducible exact Below.refl _ _ | with_reducible assumption | with_reducible refine balloc ?_ _ | with_reducible refine bdrew ?_ | with_reducible refine below_drewN ?_ _ | with_reducible refine bset ?_ ?_ _ | with_reducible exact Nat.le_refl _ | with_reducible refine bsize ?_ | (dsimp only; refine Nat.le_trans ?_ (Nat.le_add_right _ _)) | with_reducible refine Nat.le_trans ?_ (Nat.le_add_right _ _) | (with_reducible refine bstep ?_ (by assumption))))
    obtain ⟨x0, x1, x2, xz⟩ := (RdAt.new w n d (.slice av l.length cv) 34).later hb1
    go_wp2_with fail
    refine (HE.out _ ha1).mono ?_
    rintro e w2 ⟨rfl, hb2⟩
    have ha2 := bstep ha1 hb2
    go_wp2
    refine bodyPost_ret (v := .tuple #[.slice none 0 0, .bool false]) (by simp only [results, Try.results10]; go_simp) rfl ?_
    exact ans_owns rfl ⟨rfl, Or.inl ⟨rfl, rfl⟩⟩ (by first | exact bstep (by with_reducible assumption) (by with_reducible assumption) | (repeat (first | with_reducible exact Below.refl _ _ | with_reducible assumption | with_reducible refine balloc ?_ _ | with_reducible refine bdrew ?_ | with_reducible refine below_drewN ?_ _ | with_reducible refine bset ?_ ?_ _ | with_reducible exact Nat.le_refl _ | with_reducible refine bsize ?_ | (dsimp only; refine Nat.le_trans ?_ (Nat.le_add_right _ _)) | with_reducible refine Nat.le_trans ?_ (Nat.le_add_right _ _) | (with_reducible refine bstep ?_ (by assumption)))))
  have hc : cgB n d l = true := by simp only [cgB, hr, Bool.true_and, decide_eq_true_eq]; exact hgo.1 hX
  have hcan := canP_of hc
  have e : grL n d l = grW n d l := by simp [grL, grW, hc]
  rw [e, hc]
  have hall := plL_am hr
  have h16 := (rdB_1 hr).2.1
  have hPlen := plL_len n d l
  have HPl := Lib.hid (fun W (hB : Below w.heap.size w W) => places_spec n d v l W (rowG_below h hB) (by omega))
  have hGA := grA_at hcan
  have hlenW : (grW n d l).length = (grS n d l).length := by rw [grW, List.length_map]
  have HTK := Lib.hid (fun j hj => grW_take (n := n) (d := d) (l := l) (j := j) hj)
  have hamp : ∀ i, i < l.length + 2 → amB (atP9 n d l i).1 (atP9 n d l i).2 = true := fun i hi => hall _ (List.mem_of_getElem? (atP9_get hi))
  have HN := Lib.hid (fun i j (hi : i < l.length + 2) (hj : j < l.length + 2) W => near_spec (atP9 n d l i) (atP9 n d l j) (hamp i hi) (hamp j hj) W)
  have hgetP := Lib.hid (fun i (hi : i < l.length + 2) => atP9_get (n := n) (d := d) (l := l) hi)
  have hlastP := Lib.hid (atP9_last n d l)
  obtain ⟨i0, hi, hz0, hz1, hz2⟩ := info_parts infoInt
  obtain ⟨av, cv, rfl, hl1, hl2⟩ := row_shape h
  have hL0 : Hid (l.length + 2 = l.length + 1 + 1) := Lib.hid rfl
  clear h hr hc e hgo hcan hall hamp h16
  obtain ⟨X, hXe⟩ : ∃ X, fw (plL n d l) (l.length + 1) = X := ⟨_, rfl⟩
  rw [hXe] at hX HE
  clear hXe
  have hX2 : ¬ X < 0 := by omega
  go_enter Try.func10, Try.ntmps10
  go_wp2_with fail
  refine (HR.out _ (by (repeat (first | with_reducible exact Below.refl _ _ | with_reducible assumption | with_reducible refine balloc ?_ _ | with_reducible refine bdrew ?_ | with_reducible refine below_drewN ?_ _ | with_reducible refine bset ?_ ?_ _ | with_reducible exact Nat.le_refl _ | with_reducible refine bsize ?_ | (dsimp only; refine Nat.le_trans ?_ (Nat.le_add_right _ _)) | with_reducible refine Nat.le_trans ?_ (Nat.le_add_right _ _) | (with_reducible refine bstep ?_ (by assumption)))))).mono ?_
  rintro e w1 ⟨rfl, hb1⟩
  have ha1 : Below w.heap.size w w1 := by (repeat (first | with_reducible exact Below.refl _ _ | with_reducible assumption | with_reducible refine balloc ?_ _ | with_reducible refine bdrew ?_ | with_reducible refine below_drewN ?_ _ | with_reducible refine bset ?_ ?_ _ | with_reducible exact Nat.le_refl _ | with_reducible refine bsize ?_ | (dsimp only; refine Nat.le_trans ?_ (Nat.le_add_right _ _)) | with_reducible refine Nat.le_trans ?_ (Nat.le_add_right _ _) | (with_reducible refine bstep ?_ (by assumption))))
  have R1 := (RdAt.new w n d (.slice av l.length cv) 34).later hb1
  obtain ⟨x0, x1, x2, xz⟩ := id R1
  go_wp2_with fail
  refine (HE.out _ ha1).mono ?_
  rintro e w2 ⟨rfl, hb2⟩
  have ha2 := bstep ha1 hb2
  have R2 := R1.later hb2
  clear x0 x1 x2 xz hb1 hb2 R1 ha1
  obtain ⟨x0, x1, x2, xz⟩ := id R2
  go_wp2_with fail
  refine (HPl.out _ ha2).mono ?_
  rintro e w3 ⟨v3, rfl, hown3, hb3⟩
  have ha3 := bstep ha2 hb3
  have R3 := R2.later hb3
  clear x0 x1 x2 xz hb3 R2 ha2
  obtain ⟨g, c3, rfl, hg1, hg2⟩ := own_form hown3 (by rw [hPlen]; omega)
  have HC := Lib.hid (fun (W : World) (hB : Below w3.heap.size w3 W) i (hi : i < l.length + 2) => (show W.cell? ⟨g, i * 2, none⟩ = some (.int .i64 (atP9 n d l i).1) ∧ W.cell? ⟨g, i * 2 + 1, none⟩ = some (.int .i64 (atP9 n d l i).2) by
    have h0 := cellsG_get fAmt_len _ i _ (hgetP.out i hi) 0 _ rfl
    have h1 := cellsG_get fAmt_len _ i _ (hgetP.out i hi) 1 _ rfl
    rw [Nat.add_zero] at h0
    exact ⟨(hB.cell (p := ⟨g, i * 2, none⟩) hg2).trans ((hown3.cellAt _ (by rw [hPlen]; omega)).trans h0), (hB.cell (p := ⟨g, i * 2 + 1, none⟩) hg2).trans ((hown3.cellAt _ (by rw [hPlen]; omega)).trans h1)⟩))
  obtain ⟨N, hN⟩ : ∃ N, Hid (l.length + 2 = N) := ⟨_, Lib.hid rfl⟩
  have hNP : (plL n d l).length = N := by rw [hPlen, ← hN.out]
  rw [hNP]
  rw [hN.out] at HC HN hGA
  have HG := Lib.hid hGA
  have hn18 := hGA.nl
  have hk100 := hGA.kl
  have hNl := hGA.len
  have hltA := Lib.hid hGA.lt
  obtain ⟨k, hk⟩ : ∃ k, Hid ((grS n d l).length = k) := ⟨_, Lib.hid rfl⟩
  have hlenk : (grW n d l).length = k := by rw [hlenW, hk.out]
  rw [hk.out] at HG hltA hk100 HTK
  have hlastN : Hid (atP9 n d l (N - 1) = (n, d)) := Lib.hid (by rw [show N - 1 = l.length + 1 by omega]; exact hlastP.out)
  have hlk := Lib.hid hlenk
  have HAN := Lib.hid (fun (i : Nat) (hi : i ≤ k) => hltA.out i hi)
  generalize grA n d l = a at *
  generalize grW n d l = WS at *
  clear hGA hlenW hlenk hgetP hlastP hPlen hNP hNl hL0 hown3 hl1 hl2 hltA
  go_wp2
  go_loopw [5, 6] (fun out at_ wr => ∃ j : Nat, j ≤ k ∧ at_ = .int .i64 (a j : Int) ∧ wr.ownsRow w3.heap.size 3 1 out j (cellsG fInt (WS.take j)) ∧ Below w3.heap.size w3 wr) (fun out _ _ => k - lenG out)
  case atStart => exact ⟨0, Nat.zero_le _, by rw [HG.out.a0]; rfl, ⟨rfl, .inl ⟨rfl, rfl⟩⟩, Below.refl _ _⟩
  case round =>
    obtain ⟨j, hj, rfl, hown, hbel⟩ := hrel
    obtain ⟨av5, cv5, rfl⟩ := owns_shape hown
    have haj := HAN.out j hj
    have haN : a j < N := by omega
    obtain ⟨p0, p1⟩ := HC.out wr hbel (a j) haN
    obtain ⟨y0, y1, y2, yz⟩ := R3.later hbel
    have hg3 : g < wr.heap.size := Nat.lt_of_lt_of_le hg2 hbel.size
    have HNL := Lib.hid (fun W => HN.out (a j) (N - 1) haN (by omega) W)
    rw [hlastN.out] at HNL
    have hS1 := Lib.hid (fun (W : World) (h : Below wr.heap.size wr W) => (⟨h, keepa h hg3 p0, keepa h hg3 p1, keepa h yz y0, keepa h yz y1⟩ : Below wr.heap.size wr W ∧ W.cell? ⟨g, a j * 2, none⟩ = some (.int .i64 (atP9 n d l (a j)).1) ∧ W.cell? ⟨g, a j * 2 + 1, none⟩ = some (.int .i64 (atP9 n d l (a j)).2) ∧ W.cell? ⟨w.heap.size, 0, none⟩ = some (.int .i64 n) ∧ W.cell? ⟨w.heap.size, 1, none⟩ = some (.int .i64 d)))
    clear p0 p1 y0 y1 y2
    by_cases hlt : j < k
    · obtain ⟨hn0, hst, hyes, hno⟩ := HG.out.step j hlt
      have hn0' : nrB (atP9 n d l (a j)) (n, d) = false := by rw [← hlastN.out]; exact hn0
      rw [hn0'] at HNL
      clear hn0 hn0'
      have HY := Lib.hid (And.intro hyes hno)
      have haj1 := HAN.out (j + 1) (by omega)
      clear hyes hno
      go_upto_region 6 with fail
      refine wp_region_noPanic ?_
      refine wp_region_held_drew (S := (fun W => Below wr.heap.size wr W ∧ W.cell? ⟨g, a j * 2, none⟩ = some (.int .i64 (atP9 n d l (a j)).1) ∧ W.cell? ⟨g, a j * 2 + 1, none⟩ = some (.int .i64 (atP9 n d l (a j)).2) ∧ W.cell? ⟨w.heap.size, 0, none⟩ = some (.int .i64 n) ∧ W.cell? ⟨w.heap.size, 1, none⟩ = some (.int .i64 d))) (by kernel_rfl) ?_ (fun hHeld0 => ?_)
      · (try dsimp only); (refine hS1.out _ ?_; (first | with_reducible assumption | ((repeat (first | with_reducible exact Below.refl _ _ | with_reducible assumption | with_reducible refine balloc ?_ _ | with_reducible refine bdrew ?_ | with_reducible refine below_drewN ?_ _ | with_reducible refine bset ?_ ?_ _ | with_reducible exact Nat.le_refl _ | with_reducible refine bsize ?_ | (dsimp only; refine Nat.le_trans ?_ (Nat.le_add_right _ _)) | with_reducible refine Nat.le_trans ?_ (Nat.le_add_right _ _) | (with_reducible refine bstep ?_ (by assumption)))); done)))
      (refine wpAnyH_take (i := 0) (oi := { dst := some 18, op := Op.move (Operand.tmp 4), type := 32, pos := "l6_well.go:89", after := #[], guard := none }) (v := ?_) rfl (by kernel_rfl) (by kernel_rfl) (by kernel_rfl) (fun _ _ _ h => h) (Or.inl ⟨by rfl, ?_⟩) (by assumption) ?_; rotate_left; (focus (intro w hSw; (try dsimp only at hSw); go_simp; try with_reducible rfl)); (try simp only [Act.put, List.setIfInBounds_toArray, List.set_cons_zero, List.set_cons_succ]))
      (refine wpAnyH_take (i := 1) (oi := { dst := some 19, op := Op.move (Operand.tmp 6), type := 3, pos := "l6_well.go:89", after := #[], guard := none }) (v := ?_) rfl (by kernel_rfl) (by kernel_rfl) (by kernel_rfl) (fun _ _ _ h => h) (Or.inl ⟨by rfl, ?_⟩) (by assumption) ?_; rotate_left; (focus (intro w hSw; (try dsimp only at hSw); go_simp; try with_reducible rfl)); (try simp only [Act.put, List.setIfInBounds_toArray, List.set_cons_zero, List.set_cons_succ]))
      (refine wpAnyH_take (i := 2) (oi := { dst := some 20, op := Op.indexAddr 32 (Operand.tmp 18) (Operand.tmp 19), type := 0, pos := "l6_well.go:89", after := #[{ on := 0, ground := Ground.data }, { on := 1, ground := Ground.data }], guard := none }) (v := ?_) rfl (by kernel_rfl) (by kernel_rfl) (by kernel_rfl) (fun _ _ _ h => h) (Or.inl ⟨by rfl, ?_⟩) (by assumption) ?_; rotate_left; (focus (intro w hSw; (try dsimp only at hSw); go_simp; try with_reducible rfl)); (try simp only [Act.put, List.setIfInBounds_toArray, List.set_cons_zero, List.set_cons_succ]))
      (refine wpAnyH_take (i := 3) (oi := { dst := some 21, op := Op.load 31 (Operand.tmp 20), type := 31, pos := "l6_well.go:89", after := #[{ on := 2, ground := Ground.data }], guard := none }) (v := ?_) rfl (by kernel_rfl) (by kernel_rfl) (by kernel_rfl) (fun _ _ _ h => h) (Or.inl ⟨by rfl, ?_⟩) (by assumption) ?_; rotate_left; (focus (intro w hSw; (try dsimp only at hSw); go_simp; try with_reducible rfl)); (try simp only [Act.put, List.setIfInBounds_toArray, List.set_cons_zero, List.set_cons_succ]))
      (refine wpAnyH_take (i := 4) (oi := { dst := some 22, op := Op.fieldAddr 34 (Operand.tmp 1) 0, type := 0, pos := "l6_well.go:89", after := #[], guard := none }) (v := ?_) rfl (by kernel_rfl) (by kernel_rfl) (by kernel_rfl) (fun _ _ _ h => h) (Or.inl ⟨by rfl, ?_⟩) (by assumption) ?_; rotate_left; (focus (intro w hSw; (try dsimp only at hSw); go_simp; try with_reducible rfl)); (try simp only [Act.put, List.setIfInBounds_toArray, List.set_cons_zero, List.set_cons_succ]))
      (refine wpAnyH_take (i := 5) (oi := { dst := some 23, op := Op.load 31 (Operand.tmp 22), type := 31, pos := "l6_well.go:89", after := #[{ on := 4, ground := Ground.data }], guard := none }) (v := ?_) rfl (by kernel_rfl) (by kernel_rfl) (by kernel_rfl) (fun _ _ _ h => h) (Or.inl ⟨by rfl, ?_⟩) (by assumption) ?_; rotate_left; (focus (intro w hSw; (try dsimp only at hSw); go_simp; try with_reducible rfl)); (try simp only [Act.put, List.setIfInBounds_toArray, List.set_cons_zero, List.set_cons_succ]))
      (refine wpAnyH_ready (rs := [6]) (by kernel_rfl) (by simp) ?_; refine AllReadyH.cons (o := { dst := some 24, op := Op.call { callee := Callee.value (Operand.func 34), args := #[Operand.tmp 21, Operand.tmp 23], argTypes := #[31, 31] }, type := 4, pos := "l6_well.go:89", after := #[{ on := 3, ground := Ground.data }, { on := 5, ground := Ground.data }], guard := none }) rfl (fun K hK => ?_) AllReadyH.nil; go_simp; (refine (HNL.out _).mono ?_; rintro en w5 ⟨rfl, hb5⟩; (have f5 : Below wr.heap.size wr w5 := bstep (by first | with_reducible assumption | ((repeat (first | with_reducible exact Below.refl _ _ | with_reducible assumption | with_reducible refine balloc ?_ _ | with_reducible refine bdrew ?_ | with_reducible refine below_drewN ?_ _ | with_reducible refine bset ?_ ?_ _ | with_reducible exact Nat.le_refl _ | with_reducible refine bsize ?_ | (dsimp only; refine Nat.le_trans ?_ (Nat.le_add_right _ _)) | with_reducible refine Nat.le_trans ?_ (Nat.le_add_right _ _) | (with_reducible refine bstep ?_ (by assumption)))); done)) hb5)); (first | refine hK.out _ _ ?_ (fun hHeld1 => ?_) | (go_wp2_with fail; refine hK.out _ _ ?_ (fun hHeld1 => ?_))); (focus ((try dsimp only); (refine hS1.out _ ?_; (first | with_reducible assumption | ((repeat (first | with_reducible exact Below.refl _ _ | with_reducible assumption | with_reducible refine balloc ?_ _ | with_reducible refine bdrew ?_ | with_reducible refine below_drewN ?_ _ | with_reducible refine bset ?_ ?_ _ | with_reducible exact Nat.le_refl _ | with_reducible refine bsize ?_ | (dsimp only; refine Nat.le_trans ?_ (Nat.le_add_right _ _)) | with_reducible refine Nat.le_trans ?_ (Nat.le_add_right _ _) | (with_reducible refine bstep ?_ (by assumption)))); done))))); clear hK K; (try clear hHeld0); (try simp only [Act.put, List.setIfInBounds_toArray, List.set_cons_zero, List.set_cons_succ]))
      (refine wpAnyH_take (i := 7) (oi := { dst := some 25, op := Op.unOp UnOp.not 4 (Operand.tmp 24), type := 4, pos := "l6_well.go:89", after := #[{ on := 6, ground := Ground.data }], guard := none }) (v := ?_) rfl (by kernel_rfl) (by kernel_rfl) (by kernel_rfl) (fun _ _ _ h => h) (Or.inl ⟨by rfl, ?_⟩) (by assumption) ?_; rotate_left; (focus (intro w hSw; (try dsimp only at hSw); go_simp; try with_reducible rfl)); (try simp only [Act.put, List.setIfInBounds_toArray, List.set_cons_zero, List.set_cons_succ]))
      refine wpAnyH_done (by kernel_rfl) ?_ _
      (try refine NoPanic.normal ?_)
      have bel5 : Below w3.heap.size w3 w5 := bstep hbel f5
      have own5 := ownsRow_below hown f5
      clear hS1 hb5 f5 hbel hown HNL
      go_wp2
      go_loopw [7] (fun nx wq => ∃ q : Nat, a j ≤ q ∧ q ≤ a (j + 1) ∧ nx = .int .i64 (q : Int) ∧ Below w5.heap.size w5 wq) (fun nx _ => a (j + 1) - (intOf nx).toNat)
      case atStart => exact ⟨a j, Nat.le_refl _, by omega, rfl, Below.refl _ _⟩
      case round =>
        obtain ⟨q, hq1, hq2, rfl, hbq⟩ := hrel
        have belq : Below w3.heap.size w3 wr := bstep bel5 hbq
        have hqN : q + 1 < N := by omega
        obtain ⟨p0, p1⟩ := HC.out wr belq (a j) haN
        obtain ⟨s0, s1⟩ := HC.out wr belq (q + 1) hqN
        have hg4 : g < wr.heap.size := Nat.lt_of_lt_of_le hg2 belq.size
        have HNQ := Lib.hid (fun W => HN.out (a j) (q + 1) haN hqN W)
        have hS2 := Lib.hid (fun (W : World) (h : Below wr.heap.size wr W) => (⟨h, keepa h hg4 p0, keepa h hg4 p1, keepa h hg4 s0, keepa h hg4 s1⟩ : Below wr.heap.size wr W ∧ W.cell? ⟨g, a j * 2, none⟩ = some (.int .i64 (atP9 n d l (a j)).1) ∧ W.cell? ⟨g, a j * 2 + 1, none⟩ = some (.int .i64 (atP9 n d l (a j)).2) ∧ W.cell? ⟨g, (q + 1) * 2, none⟩ = some (.int .i64 (atP9 n d l (q + 1)).1) ∧ W.cell? ⟨g, (q + 1) * 2 + 1, none⟩ = some (.int .i64 (atP9 n d l (q + 1)).2)))
        clear p0 p1 s0 s1
        have wq1 : IntKind.i64.wrap ((q : Int) + 1) = (q : Int) + 1 := IntWalk.i64_in _ (by omega)
        have wq2 : (q : Int) + 1 < (N : Int) := by omega
        have wq3 : ((q : Int) + 1).toNat = q + 1 := by omega
        have wq4 : (0 : Int) ≤ (q : Int) + 1 := by omega
        by_cases hqe : q < a (j + 1)
        · have e1 : nrB (atP9 n d l (a j)) (atP9 n d l (q + 1)) = true := HY.out.1 (q + 1) (by omega) (by omega)
          rw [e1] at HNQ
          clear e1
          go_upto_region 8 with fail
          refine wp_region_noPanic ?_
          refine wp_region_held_drew (S := (fun W => Below wr.heap.size wr W ∧ W.cell? ⟨g, a j * 2, none⟩ = some (.int .i64 (atP9 n d l (a j)).1) ∧ W.cell? ⟨g, a j * 2 + 1, none⟩ = some (.int .i64 (atP9 n d l (a j)).2) ∧ W.cell? ⟨g, (q + 1) * 2, none⟩ = some (.int .i64 (atP9 n d l (q + 1)).1) ∧ W.cell? ⟨g, (q + 1) * 2 + 1, none⟩ = some (.int .i64 (atP9 n d l (q + 1)).2))) (by kernel_rfl) ?_ (fun hHeld0 => ?_)
          · (try dsimp only); (refine hS2.out _ ?_; (first | with_reducible assumption | ((repeat (first | with_reducible exact Below.refl _ _ | with_reducible assumption | with_reducible refine balloc ?_ _ | with_reducible refine bdrew ?_ | with_reducible refine below_drewN ?_ _ | with_reducible refine bset ?_ ?_ _ | with_reducible exact Nat.le_refl _ | with_reducible refine bsize ?_ | (dsimp only; refine Nat.le_trans ?_ (Nat.le_add_right _ _)) | with_reducible refine Nat.le_trans ?_ (Nat.le_add_right _ _) | (with_reducible refine bstep ?_ (by assumption)))); done)))
          (refine wpAnyH_take (i := 0) (oi := { dst := some 27, op := Op.move (Operand.tmp 7), type := 3, pos := "l6_well.go:91", after := #[], guard := none }) (v := ?_) rfl (by kernel_rfl) (by kernel_rfl) (by kernel_rfl) (fun _ _ _ h => h) (Or.inl ⟨by rfl, ?_⟩) (by assumption) ?_; rotate_left; (focus (intro w hSw; (try dsimp only at hSw); go_simp; try with_reducible rfl)); (try simp only [Act.put, List.setIfInBounds_toArray, List.set_cons_zero, List.set_cons_succ]))
          (refine wpAnyH_take (i := 1) (oi := { dst := some 28, op := Op.binOp BinOp.add 3 (Operand.tmp 27) (Operand.const (Value.int IntKind.i64 1)) 3, type := 3, pos := "l6_well.go:91", after := #[{ on := 0, ground := Ground.data }], guard := none }) (v := ?_) rfl (by kernel_rfl) (by kernel_rfl) (by kernel_rfl) (fun _ _ _ h => h) (Or.inl ⟨by rfl, ?_⟩) (by assumption) ?_; rotate_left; (focus (intro w hSw; (try dsimp only at hSw); go_simp; try with_reducible rfl)); (try simp only [Act.put, List.setIfInBounds_toArray, List.set_cons_zero, List.set_cons_succ]))
          (refine wpAnyH_take (i := 2) (oi := { dst := some 29, op := Op.move (Operand.tmp 4), type := 32, pos := "l6_well.go:91", after := #[], guard := none }) (v := ?_) rfl (by kernel_rfl) (by kernel_rfl) (by kernel_rfl) (fun _ _ _ h => h) (Or.inl ⟨by rfl, ?_⟩) (by assumption) ?_; rotate_left; (focus (intro w hSw; (try dsimp only at hSw); go_simp; try with_reducible rfl)); (try simp only [Act.put, List.setIfInBounds_toArray, List.set_cons_zero, List.set_cons_succ]))
          (refine wpAnyH_take (i := 3) (oi := { dst := some 30, op := Op.call { callee := Callee.builtin Builtin.len, args := #[Operand.tmp 29], argTypes := #[32] }, type := 3, pos := "l6_well.go:91", after := #[{ on := 2, ground := Ground.data }], guard := none }) (v := ?_) rfl (by kernel_rfl) (by kernel_rfl) (by kernel_rfl) (fun _ _ _ h => h) (Or.inl ⟨by rfl, ?_⟩) (by assumption) ?_; rotate_left; (focus (intro w hSw; (try dsimp only at hSw); go_simp; try with_reducible rfl)); (try simp only [Act.put, List.setIfInBounds_toArray, List.set_cons_zero, List.set_cons_succ]))
          (refine wpAnyH_take (i := 4) (oi := { dst := some 31, op := Op.binOp BinOp.lss 3 (Operand.tmp 28) (Operand.tmp 30) 3, type := 4, pos := "l6_well.go:91", after := #[{ on := 1, ground := Ground.data }, { on := 3, ground := Ground.data }], guard := none }) (v := (.bool true)) rfl (by kernel_rfl) (by kernel_rfl) (by kernel_rfl) (fun _ _ _ h => h) (Or.inl ⟨by rfl, ?_⟩) (by assumption) ?_; (focus (intro w hSw; (try dsimp only at hSw); go_simp; first | done | simp [wq2])); (try simp only [Act.put, List.setIfInBounds_toArray, List.set_cons_zero, List.set_cons_succ]))
          (refine wpAnyH_take (i := 5) (oi := { dst := some 32, op := Op.move (Operand.tmp 31), type := 4, pos := "l6_well.go:91", after := #[{ on := 4, ground := Ground.data }], guard := none }) (v := ?_) rfl (by kernel_rfl) (by kernel_rfl) (by kernel_rfl) (fun _ _ _ h => h) (Or.inl ⟨by rfl, ?_⟩) (by assumption) ?_; rotate_left; (focus (intro w hSw; (try dsimp only at hSw); go_simp; try with_reducible rfl)); (try simp only [Act.put, List.setIfInBounds_toArray, List.set_cons_zero, List.set_cons_succ]))
          (refine wpAnyH_take (i := 6) (oi := { dst := some 33, op := Op.move (Operand.tmp 4), type := 32, pos := "l6_well.go:91", after := #[{ on := 5, ground := Ground.guard }], guard := some (5, true) }) (v := ?_) rfl (by kernel_rfl) (by kernel_rfl) (by kernel_rfl) (fun _ _ _ h => h) (Or.inl ⟨by rfl, ?_⟩) (by assumption) ?_; rotate_left; (focus (intro w hSw; (try dsimp only at hSw); go_simp; try with_reducible rfl)); (try simp only [Act.put, List.setIfInBounds_toArray, List.set_cons_zero, List.set_cons_succ]))
          (refine wpAnyH_take (i := 7) (oi := { dst := some 34, op := Op.move (Operand.tmp 6), type := 3, pos := "l6_well.go:91", after := #[{ on := 5, ground := Ground.guard }], guard := some (5, true) }) (v := ?_) rfl (by kernel_rfl) (by kernel_rfl) (by kernel_rfl) (fun _ _ _ h => h) (Or.inl ⟨by rfl, ?_⟩) (by assumption) ?_; rotate_left; (focus (intro w hSw; (try dsimp only at hSw); go_simp; try with_reducible rfl)); (try simp only [Act.put, List.setIfInBounds_toArray, List.set_cons_zero, List.set_cons_succ]))
          (refine wpAnyH_take (i := 8) (oi := { dst := some 35, op := Op.indexAddr 32 (Operand.tmp 33) (Operand.tmp 34), type := 0, pos := "l6_well.go:91", after := #[{ on := 6, ground := Ground.data }, { on := 7, ground := Ground.data }, { on := 5, ground := Ground.guard }], guard := some (5, true) }) (v := ?_) rfl (by kernel_rfl) (by kernel_rfl) (by kernel_rfl) (fun _ _ _ h => h) (Or.inl ⟨by rfl, ?_⟩) (by assumption) ?_; rotate_left; (focus (intro w hSw; (try dsimp only at hSw); go_simp; try with_reducible rfl)); (try simp only [Act.put, List.setIfInBounds_toArray, List.set_cons_zero, List.set_cons_succ]))
          (refine wpAnyH_take (i := 9) (oi := { dst := some 36, op := Op.load 31 (Operand.tmp 35), type := 31, pos := "l6_well.go:91", after := #[{ on := 8, ground := Ground.data }, { on := 5, ground := Ground.guard }], guard := some (5, true) }) (v := ?_) rfl (by kernel_rfl) (by kernel_rfl) (by kernel_rfl) (fun _ _ _ h => h) (Or.inl ⟨by rfl, ?_⟩) (by assumption) ?_; rotate_left; (focus (intro w hSw; (try dsimp only at hSw); go_simp; try with_reducible rfl)); (try simp only [Act.put, List.setIfInBounds_toArray, List.set_cons_zero, List.set_cons_succ]))
          (refine wpAnyH_take (i := 10) (oi := { dst := some 37, op := Op.move (Operand.tmp 4), type := 32, pos := "l6_well.go:91", after := #[{ on := 5, ground := Ground.guard }], guard := some (5, true) }) (v := ?_) rfl (by kernel_rfl) (by kernel_rfl) (by kernel_rfl) (fun _ _ _ h => h) (Or.inl ⟨by rfl, ?_⟩) (by assumption) ?_; rotate_left; (focus (intro w hSw; (try dsimp only at hSw); go_simp; try with_reducible rfl)); (try simp only [Act.put, List.setIfInBounds_toArray, List.set_cons_zero, List.set_cons_succ]))
          (refine wpAnyH_take (i := 11) (oi := { dst := some 38, op := Op.move (Operand.tmp 7), type := 3, pos := "l6_well.go:91", after := #[{ on := 5, ground := Ground.guard }], guard := some (5, true) }) (v := ?_) rfl (by kernel_rfl) (by kernel_rfl) (by kernel_rfl) (fun _ _ _ h => h) (Or.inl ⟨by rfl, ?_⟩) (by assumption) ?_; rotate_left; (focus (intro w hSw; (try dsimp only at hSw); go_simp; try with_reducible rfl)); (try simp only [Act.put, List.setIfInBounds_toArray, List.set_cons_zero, List.set_cons_succ]))
          (refine wpAnyH_take (i := 12) (oi := { dst := some 39, op := Op.binOp BinOp.add 3 (Operand.tmp 38) (Operand.const (Value.int IntKind.i64 1)) 3, type := 3, pos := "l6_well.go:91", after := #[{ on := 11, ground := Ground.data }, { on := 5, ground := Ground.guard }], guard := some (5, true) }) (v := ?_) rfl (by kernel_rfl) (by kernel_rfl) (by kernel_rfl) (fun _ _ _ h => h) (Or.inl ⟨by rfl, ?_⟩) (by assumption) ?_; rotate_left; (focus (intro w hSw; (try dsimp only at hSw); go_simp; try with_reducible rfl)); (try simp only [Act.put, List.setIfInBounds_toArray, List.set_cons_zero, List.set_cons_succ]))
          (refine wpAnyH_take (i := 13) (oi := { dst := some 40, op := Op.indexAddr 32 (Operand.tmp 37) (Operand.tmp 39), type := 0, pos := "l6_well.go:91", after := #[{ on := 10, ground := Ground.data }, { on := 12, ground := Ground.data }, { on := 5, ground := Ground.guard }], guard := some (5, true) }) (v := ?_) rfl (by kernel_rfl) (by kernel_rfl) (by kernel_rfl) (fun _ _ _ h => h) (Or.inl ⟨by rfl, ?_⟩) (by assumption) ?_; rotate_left; (focus (intro w hSw; (try dsimp only at hSw); go_simp; try with_reducible rfl)); (try simp only [Act.put, List.setIfInBounds_toArray, List.set_cons_zero, List.set_cons_succ]))
          (refine wpAnyH_take (i := 14) (oi := { dst := some 41, op := Op.load 31 (Operand.tmp 40), type := 31, pos := "l6_well.go:91", after := #[{ on := 13, ground := Ground.data }, { on := 5, ground := Ground.guard }], guard := some (5, true) }) (v := ?_) rfl (by kernel_rfl) (by kernel_rfl) (by kernel_rfl) (fun _ _ _ h => h) (Or.inl ⟨by rfl, ?_⟩) (by assumption) ?_; rotate_left; (focus (intro w hSw; (try dsimp only at hSw); go_simp; try with_reducible rfl)); (try simp only [Act.put, List.setIfInBounds_toArray, List.set_cons_zero, List.set_cons_succ]))
          (refine wpAnyH_ready (rs := [15]) (by kernel_rfl) (by simp) ?_; refine AllReadyH.cons (o := { dst := some 42, op := Op.call { callee := Callee.value (Operand.func 34), args := #[Operand.tmp 36, Operand.tmp 41], argTypes := #[31, 31] }, type := 4, pos := "l6_well.go:91", after := #[{ on := 9, ground := Ground.data }, { on := 14, ground := Ground.data }, { on := 5, ground := Ground.chain }, { on := 5, ground := Ground.guard }], guard := some (5, true) }) rfl (fun K hK => ?_) AllReadyH.nil; go_simp; (refine (HNQ.out _).mono ?_; rintro en w6 ⟨rfl, hb6⟩; (have f6 : Below wr.heap.size wr w6 := bstep (by first | with_reducible assumption | ((repeat (first | with_reducible exact Below.refl _ _ | with_reducible assumption | with_reducible refine balloc ?_ _ | with_reducible refine bdrew ?_ | with_reducible refine below_drewN ?_ _ | with_reducible refine bset ?_ ?_ _ | with_reducible exact Nat.le_refl _ | with_reducible refine bsize ?_ | (dsimp only; refine Nat.le_trans ?_ (Nat.le_add_right _ _)) | with_reducible refine Nat.le_trans ?_ (Nat.le_add_right _ _) | (with_reducible refine bstep ?_ (by assumption)))); done)) hb6)); (first | refine hK.out _ _ ?_ (fun hHeld1 => ?_) | (go_wp2_with fail; refine hK.out _ _ ?_ (fun hHeld1 => ?_))); (focus ((try dsimp only); (refine hS2.out _ ?_; (first | with_reducible assumption | ((repeat (first | with_reducible exact Below.refl _ _ | with_reducible assumption | with_reducible refine balloc ?_ _ | with_reducible refine bdrew ?_ | with_reducible refine below_drewN ?_ _ | with_reducible refine bset ?_ ?_ _ | with_reducible exact Nat.le_refl _ | with_reducible refine bsize ?_ | (dsimp only; refine Nat.le_trans ?_ (Nat.le_add_right _ _)) | with_reducible refine Nat.le_trans ?_ (Nat.le_add_right _ _) | (with_reducible refine bstep ?_ (by assumption)))); done))))); clear hK K; (try clear hHeld0); (try simp only [Act.put, List.setIfInBounds_toArray, List.set_cons_zero, List.set_cons_succ]))
          (refine wpAnyH_take (i := 16) (oi := { dst := some 43, op := Op.pick (Operand.tmp 32) (Operand.tmp 42) (Operand.const (Value.bool false)), type := 4, pos := "l6_well.go:91", after := #[{ on := 5, ground := Ground.data }, { on := 15, ground := Ground.data }], guard := none }) (v := ?_) rfl (by kernel_rfl) (by kernel_rfl) (by kernel_rfl) (fun _ _ _ h => h) (Or.inl ⟨by rfl, ?_⟩) (by assumption) ?_; rotate_left; (focus (intro w hSw; (try dsimp only at hSw); go_simp; try with_reducible rfl)); (try simp only [Act.put, List.setIfInBounds_toArray, List.set_cons_zero, List.set_cons_succ]))
          refine wpAnyH_done (by kernel_rfl) ?_ _
          (try refine NoPanic.normal ?_)
          have bel6 := bstep hbq f6
          clear hS2 hb6 f6 hbq belq HNQ
          go_wp2
          go_roundw
          case rel => exact ⟨q + 1, by omega, by omega, by go_num, bel6⟩
          case measure => simp [intOf]; omega
        · have hqq : q = a (j + 1) := by omega
          have e1 : nrB (atP9 n d l (a j)) (atP9 n d l (q + 1)) = false := HY.out.2 (q + 1) (by omega) (by omega)
          rw [e1] at HNQ
          have HQQ := Lib.hid hqq
          clear e1 hqq hqe
          go_upto_region 8 with fail
          refine wp_region_noPanic ?_
          refine wp_region_held_drew (S := (fun W => Below wr.heap.size wr W ∧ W.cell? ⟨g, a j * 2, none⟩ = some (.int .i64 (atP9 n d l (a j)).1) ∧ W.cell? ⟨g, a j * 2 + 1, none⟩ = some (.int .i64 (atP9 n d l (a j)).2) ∧ W.cell? ⟨g, (q + 1) * 2, none⟩ = some (.int .i64 (atP9 n d l (q + 1)).1) ∧ W.cell? ⟨g, (q + 1) * 2 + 1, none⟩ = some (.int .i64 (atP9 n d l (q + 1)).2))) (by kernel_rfl) ?_ (fun hHeld0 => ?_)
          · (try dsimp only); (refine hS2.out _ ?_; (first | with_reducible assumption | ((repeat (first | with_reducible exact Below.refl _ _ | with_reducible assumption | with_reducible refine balloc ?_ _ | with_reducible refine bdrew ?_ | with_reducible refine below_drewN ?_ _ | with_reducible refine bset ?_ ?_ _ | with_reducible exact Nat.le_refl _ | with_reducible refine bsize ?_ | (dsimp only; refine Nat.le_trans ?_ (Nat.le_add_right _ _)) | with_reducible refine Nat.le_trans ?_ (Nat.le_add_right _ _) | (with_reducible refine bstep ?_ (by assumption)))); done)))
          (refine wpAnyH_take (i := 0) (oi := { dst := some 27, op := Op.move (Operand.tmp 7), type := 3, pos := "l6_well.go:91", after := #[], guard := none }) (v := ?_) rfl (by kernel_rfl) (by kernel_rfl) (by kernel_rfl) (fun _ _ _ h => h) (Or.inl ⟨by rfl, ?_⟩) (by assumption) ?_; rotate_left; (focus (intro w hSw; (try dsimp only at hSw); go_simp; try with_reducible rfl)); (try simp only [Act.put, List.setIfInBounds_toArray, List.set_cons_zero, List.set_cons_succ]))
          (refine wpAnyH_take (i := 1) (oi := { dst := some 28, op := Op.binOp BinOp.add 3 (Operand.tmp 27) (Operand.const (Value.int IntKind.i64 1)) 3, type := 3, pos := "l6_well.go:91", after := #[{ on := 0, ground := Ground.data }], guard := none }) (v := ?_) rfl (by kernel_rfl) (by kernel_rfl) (by kernel_rfl) (fun _ _ _ h => h) (Or.inl ⟨by rfl, ?_⟩) (by assumption) ?_; rotate_left; (focus (intro w hSw; (try dsimp only at hSw); go_simp; try with_reducible rfl)); (try simp only [Act.put, List.setIfInBounds_toArray, List.set_cons_zero, List.set_cons_succ]))
          (refine wpAnyH_take (i := 2) (oi := { dst := some 29, op := Op.move (Operand.tmp 4), type := 32, pos := "l6_well.go:91", after := #[], guard := none }) (v := ?_) rfl (by kernel_rfl) (by kernel_rfl) (by kernel_rfl) (fun _ _ _ h => h) (Or.inl ⟨by rfl, ?_⟩) (by assumption) ?_; rotate_left; (focus (intro w hSw; (try dsimp only at hSw); go_simp; try with_reducible rfl)); (try simp only [Act.put, List.setIfInBounds_toArray, List.set_cons_zero, List.set_cons_succ]))
          (refine wpAnyH_take (i := 3) (oi := { dst := some 30, op := Op.call { callee := Callee.builtin Builtin.len, args := #[Operand.tmp 29], argTypes := #[32] }, type := 3, pos := "l6_well.go:91", after := #[{ on := 2, ground := Ground.data }], guard := none }) (v := ?_) rfl (by kernel_rfl) (by kernel_rfl) (by kernel_rfl) (fun _ _ _ h => h) (Or.inl ⟨by rfl, ?_⟩) (by assumption) ?_; rotate_left; (focus (intro w hSw; (try dsimp only at hSw); go_simp; try with_reducible rfl)); (try simp only [Act.put, List.setIfInBounds_toArray, List.set_cons_zero, List.set_cons_succ]))
          (refine wpAnyH_take (i := 4) (oi := { dst := some 31, op := Op.binOp BinOp.lss 3 (Operand.tmp 28) (Operand.tmp 30) 3, type := 4, pos := "l6_well.go:91", after := #[{ on := 1, ground := Ground.data }, { on := 3, ground := Ground.data }], guard := none }) (v := (.bool true)) rfl (by kernel_rfl) (by kernel_rfl) (by kernel_rfl) (fun _ _ _ h => h) (Or.inl ⟨by rfl, ?_⟩) (by assumption) ?_; (focus (intro w hSw; (try dsimp only at hSw); go_simp; first | done | simp [wq2])); (try simp only [Act.put, List.setIfInBounds_toArray, List.set_cons_zero, List.set_cons_succ]))
          (refine wpAnyH_take (i := 5) (oi := { dst := some 32, op := Op.move (Operand.tmp 31), type := 4, pos := "l6_well.go:91", after := #[{ on := 4, ground := Ground.data }], guard := none }) (v := ?_) rfl (by kernel_rfl) (by kernel_rfl) (by kernel_rfl) (fun _ _ _ h => h) (Or.inl ⟨by rfl, ?_⟩) (by assumption) ?_; rotate_left; (focus (intro w hSw; (try dsimp only at hSw); go_simp; try with_reducible rfl)); (try simp only [Act.put, List.setIfInBounds_toArray, List.set_cons_zero, List.set_cons_succ]))
          (refine wpAnyH_take (i := 6) (oi := { dst := some 33, op := Op.move (Operand.tmp 4), type := 32, pos := "l6_well.go:91", after := #[{ on := 5, ground := Ground.guard }], guard := some (5, true) }) (v := ?_) rfl (by kernel_rfl) (by kernel_rfl) (by kernel_rfl) (fun _ _ _ h => h) (Or.inl ⟨by rfl, ?_⟩) (by assumption) ?_; rotate_left; (focus (intro w hSw; (try dsimp only at hSw); go_simp; try with_reducible rfl)); (try simp only [Act.put, List.setIfInBounds_toArray, List.set_cons_zero, List.set_cons_succ]))
          (refine wpAnyH_take (i := 7) (oi := { dst := some 34, op := Op.move (Operand.tmp 6), type := 3, pos := "l6_well.go:91", after := #[{ on := 5, ground := Ground.guard }], guard := some (5, true) }) (v := ?_) rfl (by kernel_rfl) (by kernel_rfl) (by kernel_rfl) (fun _ _ _ h => h) (Or.inl ⟨by rfl, ?_⟩) (by assumption) ?_; rotate_left; (focus (intro w hSw; (try dsimp only at hSw); go_simp; try with_reducible rfl)); (try simp only [Act.put, List.setIfInBounds_toArray, List.set_cons_zero, List.set_cons_succ]))
          (refine wpAnyH_take (i := 8) (oi := { dst := some 35, op := Op.indexAddr 32 (Operand.tmp 33) (Operand.tmp 34), type := 0, pos := "l6_well.go:91", after := #[{ on := 6, ground := Ground.data }, { on := 7, ground := Ground.data }, { on := 5, ground := Ground.guard }], guard := some (5, true) }) (v := ?_) rfl (by kernel_rfl) (by kernel_rfl) (by kernel_rfl) (fun _ _ _ h => h) (Or.inl ⟨by rfl, ?_⟩) (by assumption) ?_; rotate_left; (focus (intro w hSw; (try dsimp only at hSw); go_simp; try with_reducible rfl)); (try simp only [Act.put, List.setIfInBounds_toArray, List.set_cons_zero, List.set_cons_succ]))
          (refine wpAnyH_take (i := 9) (oi := { dst := some 36, op := Op.load 31 (Operand.tmp 35), type := 31, pos := "l6_well.go:91", after := #[{ on := 8, ground := Ground.data }, { on := 5, ground := Ground.guard }], guard := some (5, true) }) (v := ?_) rfl (by kernel_rfl) (by kernel_rfl) (by kernel_rfl) (fun _ _ _ h => h) (Or.inl ⟨by rfl, ?_⟩) (by assumption) ?_; rotate_left; (focus (intro w hSw; (try dsimp only at hSw); go_simp; try with_reducible rfl)); (try simp only [Act.put, List.setIfInBounds_toArray, List.set_cons_zero, List.set_cons_succ]))
          (refine wpAnyH_take (i := 10) (oi := { dst := some 37, op := Op.move (Operand.tmp 4), type := 32, pos := "l6_well.go:91", after := #[{ on := 5, ground := Ground.guard }], guard := some (5, true) }) (v := ?_) rfl (by kernel_rfl) (by kernel_rfl) (by kernel_rfl) (fun _ _ _ h => h) (Or.inl ⟨by rfl, ?_⟩) (by assumption) ?_; rotate_left; (focus (intro w hSw; (try dsimp only at hSw); go_simp; try with_reducible rfl)); (try simp only [Act.put, List.setIfInBounds_toArray, List.set_cons_zero, List.set_cons_succ]))
          (refine wpAnyH_take (i := 11) (oi := { dst := some 38, op := Op.move (Operand.tmp 7), type := 3, pos := "l6_well.go:91", after := #[{ on := 5, ground := Ground.guard }], guard := some (5, true) }) (v := ?_) rfl (by kernel_rfl) (by kernel_rfl) (by kernel_rfl) (fun _ _ _ h => h) (Or.inl ⟨by rfl, ?_⟩) (by assumption) ?_; rotate_left; (focus (intro w hSw; (try dsimp only at hSw); go_simp; try with_reducible rfl)); (try simp only [Act.put, List.setIfInBounds_toArray, List.set_cons_zero, List.set_cons_succ]))
          (refine wpAnyH_take (i := 12) (oi := { dst := some 39, op := Op.binOp BinOp.add 3 (Operand.tmp 38) (Operand.const (Value.int IntKind.i64 1)) 3, type := 3, pos := "l6_well.go:91", after := #[{ on := 11, ground := Ground.data }, { on := 5, ground := Ground.guard }], guard := some (5, true) }) (v := ?_) rfl (by kernel_rfl) (by kernel_rfl) (by kernel_rfl) (fun _ _ _ h => h) (Or.inl ⟨by rfl, ?_⟩) (by assumption) ?_; rotate_left; (focus (intro w hSw; (try dsimp only at hSw); go_simp; try with_reducible rfl)); (try simp only [Act.put, List.setIfInBounds_toArray, List.set_cons_zero, List.set_cons_succ]))
          (refine wpAnyH_take (i := 13) (oi := { dst := some 40, op := Op.indexAddr 32 (Operand.tmp 37) (Operand.tmp 39), type := 0, pos := "l6_well.go:91", after := #[{ on := 10, ground := Ground.data }, { on := 12, ground := Ground.data }, { on := 5, ground := Ground.guard }], guard := some (5, true) }) (v := ?_) rfl (by kernel_rfl) (by kernel_rfl) (by kernel_rfl) (fun _ _ _ h => h) (Or.inl ⟨by rfl, ?_⟩) (by assumption) ?_; rotate_left; (focus (intro w hSw; (try dsimp only at hSw); go_simp; try with_reducible rfl)); (try simp only [Act.put, List.setIfInBounds_toArray, List.set_cons_zero, List.set_cons_succ]))
          (refine wpAnyH_take (i := 14) (oi := { dst := some 41, op := Op.load 31 (Operand.tmp 40), type := 31, pos := "l6_well.go:91", after := #[{ on := 13, ground := Ground.data }, { on := 5, ground := Ground.guard }], guard := some (5, true) }) (v := ?_) rfl (by kernel_rfl) (by kernel_rfl) (by kernel_rfl) (fun _ _ _ h => h) (Or.inl ⟨by rfl, ?_⟩) (by assumption) ?_; rotate_left; (focus (intro w hSw; (try dsimp only at hSw); go_simp; try with_reducible rfl)); (try simp only [Act.put, List.setIfInBounds_toArray, List.set_cons_zero, List.set_cons_succ]))
          (refine wpAnyH_ready (rs := [15]) (by kernel_rfl) (by simp) ?_; refine AllReadyH.cons (o := { dst := some 42, op := Op.call { callee := Callee.value (Operand.func 34), args := #[Operand.tmp 36, Operand.tmp 41], argTypes := #[31, 31] }, type := 4, pos := "l6_well.go:91", after := #[{ on := 9, ground := Ground.data }, { on := 14, ground := Ground.data }, { on := 5, ground := Ground.chain }, { on := 5, ground := Ground.guard }], guard := some (5, true) }) rfl (fun K hK => ?_) AllReadyH.nil; go_simp; (refine (HNQ.out _).mono ?_; rintro en w6 ⟨rfl, hb6⟩; (have f6 : Below wr.heap.size wr w6 := bstep (by first | with_reducible assumption | ((repeat (first | with_reducible exact Below.refl _ _ | with_reducible assumption | with_reducible refine balloc ?_ _ | with_reducible refine bdrew ?_ | with_reducible refine below_drewN ?_ _ | with_reducible refine bset ?_ ?_ _ | with_reducible exact Nat.le_refl _ | with_reducible refine bsize ?_ | (dsimp only; refine Nat.le_trans ?_ (Nat.le_add_right _ _)) | with_reducible refine Nat.le_trans ?_ (Nat.le_add_right _ _) | (with_reducible refine bstep ?_ (by assumption)))); done)) hb6)); (first | refine hK.out _ _ ?_ (fun hHeld1 => ?_) | (go_wp2_with fail; refine hK.out _ _ ?_ (fun hHeld1 => ?_))); (focus ((try dsimp only); (refine hS2.out _ ?_; (first | with_reducible assumption | ((repeat (first | with_reducible exact Below.refl _ _ | with_reducible assumption | with_reducible refine balloc ?_ _ | with_reducible refine bdrew ?_ | with_reducible refine below_drewN ?_ _ | with_reducible refine bset ?_ ?_ _ | with_reducible exact Nat.le_refl _ | with_reducible refine bsize ?_ | (dsimp only; refine Nat.le_trans ?_ (Nat.le_add_right _ _)) | with_reducible refine Nat.le_trans ?_ (Nat.le_add_right _ _) | (with_reducible refine bstep ?_ (by assumption)))); done))))); clear hK K; (try clear hHeld0); (try simp only [Act.put, List.setIfInBounds_toArray, List.set_cons_zero, List.set_cons_succ]))
          (refine wpAnyH_take (i := 16) (oi := { dst := some 43, op := Op.pick (Operand.tmp 32) (Operand.tmp 42) (Operand.const (Value.bool false)), type := 4, pos := "l6_well.go:91", after := #[{ on := 5, ground := Ground.data }, { on := 15, ground := Ground.data }], guard := none }) (v := ?_) rfl (by kernel_rfl) (by kernel_rfl) (by kernel_rfl) (fun _ _ _ h => h) (Or.inl ⟨by rfl, ?_⟩) (by assumption) ?_; rotate_left; (focus (intro w hSw; (try dsimp only at hSw); go_simp; try with_reducible rfl)); (try simp only [Act.put, List.setIfInBounds_toArray, List.set_cons_zero, List.set_cons_succ]))
          refine wpAnyH_done (by kernel_rfl) ?_ _
          (try refine NoPanic.normal ?_)
          have bel6 := bstep hbq f6
          have bel7 : Below w3.heap.size w3 w6 := bstep bel5 bel6
          have own6 := ownsRow_below own5 bel6
          clear hS2 hb6 f6 hbq belq HNQ own5 bel5 bel6
          go_wp2_with (at_builtin; refine wpList_append_own _ rfl _ _ 28 rfl w3.heap.size 3 i0 (.int .i64 0) 1 8 Try.underlying28 hi hz0 hz1 hz2 rfl (by decide) _ _ _ rfl (own6.alloc _) ⟨w6.heap.size, 0, none⟩ 1 1 [.int .i64 ((q : Int) - 1)] rfl rfl ?c1 ?c2 ?c3 ?c4 ?c5 ?_)
          case c1 => (intro t u ht; rcases t with _ | t <;> simp at ht; subst ht; simp [go_sem]; done)
          case c2 => simp [Value.oneCell']
          case c3 => unfold maxLen; omega
          case c4 => omega
          case c5 => have := bel7.size; first | omega | (simp; omega)
          intro v7 w7 hown7 hgr7 _
          obtain ⟨av7, cv7, rfl⟩ := owns_shape hown7
          have bel8 : Below w3.heap.size w3 w7 := (show Below w3.heap.size w3 _ by first | with_reducible assumption | ((repeat (first | with_reducible exact Below.refl _ _ | with_reducible assumption | with_reducible refine balloc ?_ _ | with_reducible refine bdrew ?_ | with_reducible refine below_drewN ?_ _ | with_reducible refine bset ?_ ?_ _ | with_reducible exact Nat.le_refl _ | with_reducible refine bsize ?_ | (dsimp only; refine Nat.le_trans ?_ (Nat.le_add_right _ _)) | with_reducible refine Nat.le_trans ?_ (Nat.le_add_right _ _) | (with_reducible refine bstep ?_ (by assumption)))); done)).grown hgr7 (by have := bel7.size; first | omega | (simp; omega)) (fun t e => (own6.lt t e).1)
          have own8 : w7.ownsRow w3.heap.size 3 1 (.slice av7 (j + 1) cv7) (j + 1) (cellsG fInt (WS.take (j + 1))) := by
            rw [HTK.out j hlt, cellsG_append, ← HQQ.out]
            exact hown7
          have HOWN := Lib.hid own8
          clear hown7 hgr7 own6 own8 bel7
          go_wp2
          go_roundw
          case rel => exact ⟨j + 1, by omega, by rw [← HQQ.out], HOWN.out, bel8⟩
          case measure => simp [lenG]; omega
    · have hjk : j = k := by omega
      subst hjk
      have hn0' : nrB (atP9 n d l (a j)) (n, d) = true := by rw [← hlastN.out]; exact HG.out.stop
      rw [hn0'] at HNL
      clear hn0'
      go_upto_region 6 with fail
      refine wp_region_noPanic ?_
      refine wp_region_held_drew (S := (fun W => Below wr.heap.size wr W ∧ W.cell? ⟨g, a j * 2, none⟩ = some (.int .i64 (atP9 n d l (a j)).1) ∧ W.cell? ⟨g, a j * 2 + 1, none⟩ = some (.int .i64 (atP9 n d l (a j)).2) ∧ W.cell? ⟨w.heap.size, 0, none⟩ = some (.int .i64 n) ∧ W.cell? ⟨w.heap.size, 1, none⟩ = some (.int .i64 d))) (by kernel_rfl) ?_ (fun hHeld0 => ?_)
      · (try dsimp only); (refine hS1.out _ ?_; (first | with_reducible assumption | ((repeat (first | with_reducible exact Below.refl _ _ | with_reducible assumption | with_reducible refine balloc ?_ _ | with_reducible refine bdrew ?_ | with_reducible refine below_drewN ?_ _ | with_reducible refine bset ?_ ?_ _ | with_reducible exact Nat.le_refl _ | with_reducible refine bsize ?_ | (dsimp only; refine Nat.le_trans ?_ (Nat.le_add_right _ _)) | with_reducible refine Nat.le_trans ?_ (Nat.le_add_right _ _) | (with_reducible refine bstep ?_ (by assumption)))); done)))
      (refine wpAnyH_take (i := 0) (oi := { dst := some 18, op := Op.move (Operand.tmp 4), type := 32, pos := "l6_well.go:89", after := #[], guard := none }) (v := ?_) rfl (by kernel_rfl) (by kernel_rfl) (by kernel_rfl) (fun _ _ _ h => h) (Or.inl ⟨by rfl, ?_⟩) (by assumption) ?_; rotate_left; (focus (intro w hSw; (try dsimp only at hSw); go_simp; try with_reducible rfl)); (try simp only [Act.put, List.setIfInBounds_toArray, List.set_cons_zero, List.set_cons_succ]))
      (refine wpAnyH_take (i := 1) (oi := { dst := some 19, op := Op.move (Operand.tmp 6), type := 3, pos := "l6_well.go:89", after := #[], guard := none }) (v := ?_) rfl (by kernel_rfl) (by kernel_rfl) (by kernel_rfl) (fun _ _ _ h => h) (Or.inl ⟨by rfl, ?_⟩) (by assumption) ?_; rotate_left; (focus (intro w hSw; (try dsimp only at hSw); go_simp; try with_reducible rfl)); (try simp only [Act.put, List.setIfInBounds_toArray, List.set_cons_zero, List.set_cons_succ]))
      (refine wpAnyH_take (i := 2) (oi := { dst := some 20, op := Op.indexAddr 32 (Operand.tmp 18) (Operand.tmp 19), type := 0, pos := "l6_well.go:89", after := #[{ on := 0, ground := Ground.data }, { on := 1, ground := Ground.data }], guard := none }) (v := ?_) rfl (by kernel_rfl) (by kernel_rfl) (by kernel_rfl) (fun _ _ _ h => h) (Or.inl ⟨by rfl, ?_⟩) (by assumption) ?_; rotate_left; (focus (intro w hSw; (try dsimp only at hSw); go_simp; try with_reducible rfl)); (try simp only [Act.put, List.setIfInBounds_toArray, List.set_cons_zero, List.set_cons_succ]))
      (refine wpAnyH_take (i := 3) (oi := { dst := some 21, op := Op.load 31 (Operand.tmp 20), type := 31, pos := "l6_well.go:89", after := #[{ on := 2, ground := Ground.data }], guard := none }) (v := ?_) rfl (by kernel_rfl) (by kernel_rfl) (by kernel_rfl) (fun _ _ _ h => h) (Or.inl ⟨by rfl, ?_⟩) (by assumption) ?_; rotate_left; (focus (intro w hSw; (try dsimp only at hSw); go_simp; try with_reducible rfl)); (try simp only [Act.put, List.setIfInBounds_toArray, List.set_cons_zero, List.set_cons_succ]))
      (refine wpAnyH_take (i := 4) (oi := { dst := some 22, op := Op.fieldAddr 34 (Operand.tmp 1) 0, type := 0, pos := "l6_well.go:89", after := #[], guard := none }) (v := ?_) rfl (by kernel_rfl) (by kernel_rfl) (by kernel_rfl) (fun _ _ _ h => h) (Or.inl ⟨by rfl, ?_⟩) (by assumption) ?_; rotate_left; (focus (intro w hSw; (try dsimp only at hSw); go_simp; try with_reducible rfl)); (try simp only [Act.put, List.setIfInBounds_toArray, List.set_cons_zero, List.set_cons_succ]))
      (refine wpAnyH_take (i := 5) (oi := { dst := some 23, op := Op.load 31 (Operand.tmp 22), type := 31, pos := "l6_well.go:89", after := #[{ on := 4, ground := Ground.data }], guard := none }) (v := ?_) rfl (by kernel_rfl) (by kernel_rfl) (by kernel_rfl) (fun _ _ _ h => h) (Or.inl ⟨by rfl, ?_⟩) (by assumption) ?_; rotate_left; (focus (intro w hSw; (try dsimp only at hSw); go_simp; try with_reducible rfl)); (try simp only [Act.put, List.setIfInBounds_toArray, List.set_cons_zero, List.set_cons_succ]))
      (refine wpAnyH_ready (rs := [6]) (by kernel_rfl) (by simp) ?_; refine AllReadyH.cons (o := { dst := some 24, op := Op.call { callee := Callee.value (Operand.func 34), args := #[Operand.tmp 21, Operand.tmp 23], argTypes := #[31, 31] }, type := 4, pos := "l6_well.go:89", after := #[{ on := 3, ground := Ground.data }, { on := 5, ground := Ground.data }], guard := none }) rfl (fun K hK => ?_) AllReadyH.nil; go_simp; (refine (HNL.out _).mono ?_; rintro en w5 ⟨rfl, hb5⟩; (have f5 : Below wr.heap.size wr w5 := bstep (by first | with_reducible assumption | ((repeat (first | with_reducible exact Below.refl _ _ | with_reducible assumption | with_reducible refine balloc ?_ _ | with_reducible refine bdrew ?_ | with_reducible refine below_drewN ?_ _ | with_reducible refine bset ?_ ?_ _ | with_reducible exact Nat.le_refl _ | with_reducible refine bsize ?_ | (dsimp only; refine Nat.le_trans ?_ (Nat.le_add_right _ _)) | with_reducible refine Nat.le_trans ?_ (Nat.le_add_right _ _) | (with_reducible refine bstep ?_ (by assumption)))); done)) hb5)); (first | refine hK.out _ _ ?_ (fun hHeld1 => ?_) | (go_wp2_with fail; refine hK.out _ _ ?_ (fun hHeld1 => ?_))); (focus ((try dsimp only); (refine hS1.out _ ?_; (first | with_reducible assumption | ((repeat (first | with_reducible exact Below.refl _ _ | with_reducible assumption | with_reducible refine balloc ?_ _ | with_reducible refine bdrew ?_ | with_reducible refine below_drewN ?_ _ | with_reducible refine bset ?_ ?_ _ | with_reducible exact Nat.le_refl _ | with_reducible refine bsize ?_ | (dsimp only; refine Nat.le_trans ?_ (Nat.le_add_right _ _)) | with_reducible refine Nat.le_trans ?_ (Nat.le_add_right _ _) | (with_reducible refine bstep ?_ (by assumption)))); done))))); clear hK K; (try clear hHeld0); (try simp only [Act.put, List.setIfInBounds_toArray, List.set_cons_zero, List.set_cons_succ]))
      (refine wpAnyH_take (i := 7) (oi := { dst := some 25, op := Op.unOp UnOp.not 4 (Operand.tmp 24), type := 4, pos := "l6_well.go:89", after := #[{ on := 6, ground := Ground.data }], guard := none }) (v := ?_) rfl (by kernel_rfl) (by kernel_rfl) (by kernel_rfl) (fun _ _ _ h => h) (Or.inl ⟨by rfl, ?_⟩) (by assumption) ?_; rotate_left; (focus (intro w hSw; (try dsimp only at hSw); go_simp; try with_reducible rfl)); (try simp only [Act.put, List.setIfInBounds_toArray, List.set_cons_zero, List.set_cons_succ]))
      refine wpAnyH_done (by kernel_rfl) ?_ _
      (try refine NoPanic.normal ?_)
      have own5 := ownsRow_below hown f5
      have bel5 : Below w.heap.size w w5 := bstep (bstep ha3 hbel) f5
      go_wp2
      refine bodyPost_ret (v := .tuple #[.slice av5 j cv5, .bool true]) (by simp only [results, Try.results10]; go_simp) rfl ?_
      refine ⟨_, rfl, ?_, bel5⟩
      have e := hlk.out
      rw [← e, List.take_length] at own5
      rw [e] at own5 ⊢
      exact own_mono own5 ha3.size
end Go.Proofs.Ytngoibohkckgpaa

/- The laws' helpers on a list of ints, told of whatever row. -/
namespace Go.Proofs.Ytngoibohkckgpaa
open Go.ChangeShapes Go.WideShapes Go.ChangeAt Go.RowKit Go.Joins
set_option maxRecDepth 100000
set_option linter.unusedVariables false
set_option linter.unusedSimpArgs false

theorem eqr_ints (v1 v2 : Value) (l : List Int) (b1 b2 : Nat) (w : World) (hn : l.length ≤ 1048576) (h1 : w.ownsRow b1 3 1 v1 l.length (cellsG fInt l)) (h2 : w.ownsRow b2 3 1 v2 l.length (cellsG fInt l)) :
    Calls Try.prog 13 #[v1, v2] w fun e w' => e = .returned (.bool true) ∧ Below w.heap.size w w' := by
  have h1' := h1
  have h2' := h2
  rcases h1.2 with ⟨rfl, z1⟩ | ⟨g1, c1, cur1, rfl, _⟩ <;> rcases h2.2 with ⟨rfl, z2⟩ | ⟨g2, c2, cur2, rfl, _⟩
  · exact eq_ints_nil _ _ _ _ _
  · rw [z1]; exact eq_ints_nil _ _ _ _ _
  · rw [z2]; exact eq_ints_nil _ _ _ _ _
  · exact eq_ints _ _ _ _ _ _ _ _ hn h1' h2'
theorem mark_ints_same (a : Option Addr) (c : Nat) (s : Int) (w : World) :
    Calls Try.prog 16 #[.slice a 0 c, .int .i64 s] w fun e w' => e = .returned (.int .i64 s) ∧ w = w' := by
  go_enter Try.func16, Try.ntmps16
  go_wp2
  go_loopw [1, 5] (fun m i wr => m = .int .i64 s ∧ i = .int .i64 0 ∧ wr = w) (fun _ _ _ => 0)
  case atStart => exact ⟨rfl, rfl, rfl⟩
  case round =>
    obtain ⟨rfl, rfl, rfl⟩ := hrel
    go_wp2
    go_ret
    exact ⟨rfl, rfl⟩
theorem markr_ints (base n : Nat) (v : Value) (s : Int) (xs : List Value) (w : World) (hn : n ≤ 1048576) (s0 : 0 ≤ s) (s1 : s ≤ 100000000) (hown : w.ownsRow base 3 1 v n xs) :
    Calls Try.prog 16 #[v, .int .i64 s] w fun e w' => e = .returned (.int .i64 (s + (n : Int))) ∧ w.grownBy w' v.ownBlock ∧
      ∃ ys, w'.ownsRow base 3 1 v n ys ∧ ∀ i : Nat, i < n → ys[i]? = some (.int .i64 (s + (i : Int))) := by
  have h' := hown
  rcases hown.2 with ⟨rfl, rfl⟩ | ⟨g1, c1, cur1, rfl, _⟩
  · refine (mark_ints_same none 0 s w).mono ?_
    rintro e w' ⟨rfl, rfl⟩
    exact ⟨by simp, ⟨rfl, rfl, rfl, Nat.le_refl _, fun _ _ _ => rfl⟩, xs, h', fun i hi => absurd hi (by omega)⟩
  · exact mark_ints_some _ _ _ _ _ _ _ hn s0 s1 h'
theorem heldr_ints (base n : Nat) (v : Value) (s : Int) (ys : List Value) (w : World) (hn : n ≤ 1048576) (s0 : 0 ≤ s) (s1 : s ≤ 100000000) (hown : w.ownsRow base 3 1 v n ys) (hall : ∀ i : Nat, i < n → ys[i]? = some (.int .i64 (s + (i : Int)))) :
    Calls Try.prog 17 #[v, .int .i64 s] w fun e w' => e = .returned (.int .i64 (s + (n : Int))) ∧ Below w.heap.size w w' := by
  have h' := hown
  rcases hown.2 with ⟨rfl, rfl⟩ | ⟨g1, c1, cur1, rfl, _⟩
  · refine (held_ints_nil none 0 s w).mono ?_
    rintro e w' ⟨rfl, hb⟩
    exact ⟨by simp, hb⟩
  · exact held_ints_some _ _ _ _ _ _ _ hn s0 s1 h' hall
end Go.Proofs.Ytngoibohkckgpaa

/- Roads: what a law writes into one. -/
namespace Go.Proofs.Ytngoibohkckgpaa
open Go.ChangeShapes Go.WideShapes Go.ChangeAt Go.RowKit Go.Joins
set_option maxRecDepth 100000
set_option linter.unusedVariables false
set_option linter.unusedSimpArgs false

theorem grown_alloc (w : World) (o : Obj) (row : Option Nat) : w.grownBy (w.alloc o) row :=
  ⟨rfl, rfl, rfl, by simp, fun k hk _ => Below.heap_alloc w o k hk⟩
theorem RdAt.grown {g : Nat} {n d : Int} {v : Value} {W W' : World} (h : RdAt g n d v W) {row : Option Nat} (hg : W.grownBy W' row) (hne : some g ≠ row) : RdAt g n d v W' :=
  ⟨hg.cell h.1 hne, hg.cell h.2.1 hne, hg.cell h.2.2.1 hne, Nat.lt_of_lt_of_le h.2.2.2 hg.size⟩
set_option maxHeartbeats 800000 in
theorem markRoad_any (n d : Int) (base k : Nat) (v : Value) (s : Int) (xs : List Value) (w : World) (hn : k ≤ 1048576) (s0 : 0 ≤ s) (s1 : s ≤ 100000000) (hown : w.ownsRow base 31 2 v k xs) :
    Calls Try.prog 15 #[.agg #[.int .i64 n, .int .i64 d, v], .int .i64 s] w fun e w' => e = .returned (.int .i64 (s + 2 * (k : Int))) ∧ w.grownBy w' v.ownBlock ∧
      ∃ ys, w'.ownsRow base 31 2 v k ys ∧ ∀ i : Nat, i < k * 2 → ys[i]? = some (.int .i64 (s + (i : Int))) := by
  have HM := Lib.hid (fun W (h : W.ownsRow base 31 2 v k xs) => markr_amts base k v s xs W hn s0 s1 h)
  go_enter Try.func15, Try.ntmps15
  go_wp2_with fail
  refine (HM.out _ (hown.alloc _)).mono ?_
  rintro e w1 ⟨rfl, hgr, ys, hY, hall⟩
  have hg2 := grown_trans (grown_alloc w (.cells #[.int .i64 n, .int .i64 d, v] 34) v.ownBlock) hgr
  have HA := Lib.hid hall
  clear hall hgr
  go_wp2
  go_ret
  exact ⟨rfl, hg2, ys, hY, HA.out⟩
end Go.Proofs.Ytngoibohkckgpaa
