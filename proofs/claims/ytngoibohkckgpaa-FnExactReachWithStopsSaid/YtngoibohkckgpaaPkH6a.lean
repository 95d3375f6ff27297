/- Several texts in one, in their order. -/
import Derived.Test.YtngoibohkckgpaaRoadJ
import Derived.Test.YtngoibohkckgpaaRoadK
import Derived.Deep.RegionHeld3
import Derived.Deep.DeepCutAuto
import Derived.Test.YtngoibohkckgpaaRoadR
import Derived.Test.YtngoibohkckgpaaBwd
import Derived.Test.YtngoibohkckgpaaApp
import Derived.Test.YtngoibohkckgpaaOInt
import Derived.ScopeJumps
import Derived.WalkMore
import Derived.Test.YtngoibohkckgpaaRoadQ
import Derived.Test.YtngoibohkckgpaaAns
import Derived.Test.YtngoibohkckgpaaCmp
import Derived.Test.YtngoibohkckgpaaReck1
/- Roads: LongestGap of the model; the law. -/
namespace Go.Proofs.Ytngoibohkckgpaa
open Go.ChangeShapes Go.WideShapes Go.ChangeAt Go.RowKit Go.Joins
set_option maxRecDepth 100000
set_option linter.unusedVariables false
set_option linter.unusedSimpArgs false


end Go.Proofs.Ytngoibohkckgpaa

/- Roads: CanGo on both sides; the law. -/
namespace Go.Proofs.Ytngoibohkckgpaa
open Go.ChangeShapes Go.WideShapes Go.ChangeAt Go.RowKit Go.Joins
set_option maxRecDepth 100000
set_option linter.unusedVariables false
set_option linter.unusedSimpArgs false


def cgB (n d : Int) (l : List (Int × Int)) : Bool := rdB n d l && decide ((lgO n d l).1 ≤ (lgO n d l).2)
theorem plL_am {n d : Int} {l : List (Int × Int)} (h : rdB n d l = true) : ∀ p ∈ plL n d l, amB p.1 p.2 = true := by
  obtain ⟨hw, h16, hlr⟩ := rdB_1 h
  intro p hp
  simp only [plL, endL, List.mem_cons, List.mem_append, List.mem_singleton, List.not_mem_nil, or_false] at hp
  rcases hp with rfl | hp | rfl
  · exact am01
  · exact rp_am (hlr p hp)
  · exact rp_am hw
theorem am_bd {P : List (Int × Int)} (h : ∀ p ∈ P, amB p.1 p.2 = true) : ∀ p ∈ P, ∀ y ∈ fAmt p, -9223372036854775808 ≤ y ∧ y ≤ 9223372036854775807 := by
  intro p hp y hy
  have ha := am_of _ _ (h p hp)
  have q1 := ha.a
  have q2 := ha.b
  have q3 := ha.c
  have q4 := ha.d
  simp [fAmt] at hy
  omega
set_option maxHeartbeats 3200000 in
theorem weEnd_spec (n d : Int) (v : Value) (l : List (Int × Int)) (w : World) (h : RowG 2 fAmt w v l) (hrd : rdB n d l = true) :
    Calls Try.prog 32 #[.agg #[.int .i64 n, .int .i64 d, v]] w fun e w' => e = .returned (.int .i64 (fw (plL n d l) (l.length + 1))) ∧ Below w.heap.size w w' := by
  obtain ⟨hw, h16, hlr⟩ := rdB_1 hrd
  have HPl := Lib.hid (fun W (hB : Below w.heap.size w W) => places_spec n d v l W (rowG_below h hB) (by omega))
  have hPlen := plL_len n d l
  have hall := plL_am hrd
  have HB := Lib.hid (am_bd hall)
  have HF := Lib.hid (fun a cap W hL => few_spec a cap (plL n d l) hall (by omega) (by omega) W hL)
  have hlast : (fwF (plL n d l) (plL n d l).length)[l.length + 1]? = some (fw (plL n d l) (l.length + 1)) := by
    have h1 := fwF_fw (P := plL n d l) (show l.length + 1 < (plL n d l).length by omega)
    rw [List.getD_eq_getElem?_getD] at h1
    rw [List.getElem?_eq_getElem (by rw [fwF_len]; omega)] at h1 ⊢
    simp at h1
    rw [h1]
  have hlast := Lib.hid (cInt_get hlast)
  have hbd := fw_bd (plL n d l) (l.length + 1)
  have hP0 : 0 < (plL n d l).length := by omega
  have hPm : (plL n d l).length - 1 = l.length + 1 := by omega
  have hP18 : (plL n d l).length ≤ 18 := by omega
  clear h hrd hw hlr hall hPlen
  generalize fw (plL n d l) (l.length + 1) = X at *
  generalize fwF (plL n d l) (plL n d l).length = Y at *
  generalize plL n d l = P at *
  generalize l.length + 1 = m at *
  go_enter Try.func32, Try.ntmps32
  go_wp2_with fail
  refine (HPl.out _ (by (repeat (first | with_reducible exact Below.refl _ _ | with_reducible assumption | with_reducible refine balloc ?_ _ | with_reducible refine bdrew ?_ | with_reducible refine below_drewN ?_ _ | with_reducible refine bset ?_ ?_ _ | with_reducible exact Nat.le_refl _ | with_reducible refine bsize ?_ | (dsimp only; refine Nat.le_trans ?_ (Nat.le_add_right _ _)) | with_reducible refine Nat.le_trans ?_ (Nat.le_add_right _ _) | (with_reducible refine bstep ?_ (by assumption)))))).mono ?_
  rintro e w1 ⟨v1, rfl, hown1, hb1⟩
  have ha1 : Below w.heap.size w w1 := by (repeat (first | with_reducible exact Below.refl _ _ | with_reducible assumption | with_reducible refine balloc ?_ _ | with_reducible refine bdrew ?_ | with_reducible refine below_drewN ?_ _ | with_reducible refine bset ?_ ?_ _ | with_reducible exact Nat.le_refl _ | with_reducible refine bsize ?_ | (dsimp only; refine Nat.le_trans ?_ (Nat.le_add_right _ _)) | with_reducible refine Nat.le_trans ?_ (Nat.le_add_right _ _) | (with_reducible refine bstep ?_ (by assumption))))
  obtain ⟨gq, cq, rfl, _, _⟩ := own_form hown1 hP0
  have hL1 := liesG_own fAmt_len hown1 HB.out
  clear hown1 hb1 HPl
  go_wp2_with fail
  refine (HF.out _ _ _ hL1).mono ?_
  rintro e w2 ⟨v2, rfl, hown2, hb2⟩
  have ha2 := bstep ha1 hb2
  obtain ⟨gf, cf, rfl, _, _⟩ := own_form hown2 hP0
  have hc : w2.cell? ⟨gf, m, none⟩ = some (.int .i64 X) := by
    rw [hown2.cellAt m (by omega)]; exact hlast.out
  clear hown2 hL1 hb2 HF hlast
  have e1 : ((P.length : Int) - 1) = ((m : Nat) : Int) := by omega
  have e2 : IntKind.i64.wrap ((P.length : Int) - 1) = ((m : Nat) : Int) := by rw [IntWalk.i64_in _ (by omega)]; exact e1
  have i1 : (0 : Int) ≤ (m : Int) := by omega
  have i2 : (m : Int) < (P.length : Int) := by omega
  rw [← hPm] at hc e1 e2
  clear hPm
  go_wp2
  go_ret
  exact ⟨rfl, ha2⟩
theorem fits_impl (x y : Int) (w : World) :
    Calls Try.prog 63 #[.agg #[.int .i64 x, .int .i64 y]] w fun e w' => e = .returned (.bool (decide (x ≤ y))) ∧ Below w.heap.size w w' := by
  go_enter Try.func63, Try.ntmps63
  go_wp2
  go_ret
  refine ⟨rfl, ?_⟩
  (repeat (first | with_reducible exact Below.refl _ _ | with_reducible assumption | with_reducible refine balloc ?_ _ | with_reducible refine bdrew ?_ | with_reducible refine below_drewN ?_ _ | with_reducible refine bset ?_ ?_ _ | with_reducible exact Nat.le_refl _ | with_reducible refine bsize ?_ | (dsimp only; refine Nat.le_trans ?_ (Nat.le_add_right _ _)) | with_reducible refine Nat.le_trans ?_ (Nat.le_add_right _ _) | (with_reducible refine bstep ?_ (by assumption))))
set_option maxHeartbeats 1600000 in
theorem canGo_impl (n d : Int) (bn : -9223372036854775808 ≤ n ∧ n ≤ 9223372036854775807) (bd : -9223372036854775808 ≤ d ∧ d ≤ 9223372036854775807) (v : Value) (l : List (Int × Int)) (w : World) (h : RowG 2 fAmt w v l) :
    Calls Try.prog 37 #[.agg #[.int .i64 n, .int .i64 d, v]] w fun e w' => e = .returned (.tuple #[.bool (cgB n d l), .bool (rdB n d l)]) ∧ Below w.heap.size w w' := by
  have HR := Lib.hid (fun W (hB : Below w.heap.size w W) => longest_impl n d bn bd v l W (rowG_below h hB))
  unfold cgB
  clear h
  generalize lgO n d l = g at *
  obtain ⟨x, y⟩ := g
  simp only at HR ⊢
  cases hr : rdB n d l
  · rw [hr] at HR
    simp only [Bool.false_and]
    clear hr
    go_enter Try.func37, Try.ntmps37
    go_wp2_with fail
    refine (HR.out _ (by (repeat (first | with_reducible exact Below.refl _ _ | with_reducible assumption | with_reducible refine balloc ?_ _ | with_reducible refine bdrew ?_ | with_reducible refine below_drewN ?_ _ | with_reducible refine bset ?_ ?_ _ | with_reducible exact Nat.le_refl _ | with_reducible refine bsize ?_ | (dsimp only; refine Nat.le_trans ?_ (Nat.le_add_right _ _)) | with_reducible refine Nat.le_trans ?_ (Nat.le_add_right _ _) | (with_reducible refine bstep ?_ (by assumption)))))).mono ?_
    rintro e w1 ⟨rfl, hb1⟩
    go_wp2
    refine bodyPost_ret (v := .tuple #[.bool false, .bool false]) (by simp only [results, Try.results37]; go_simp) rfl ⟨rfl, ?_⟩
    (repeat (first | with_reducible exact Below.refl _ _ | with_reducible assumption | with_reducible refine balloc ?_ _ | with_reducible refine bdrew ?_ | with_reducible refine below_drewN ?_ _ | with_reducible refine bset ?_ ?_ _ | with_reducible exact Nat.le_refl _ | with_reducible refine bsize ?_ | (dsimp only; refine Nat.le_trans ?_ (Nat.le_add_right _ _)) | with_reducible refine Nat.le_trans ?_ (Nat.le_add_right _ _) | (with_reducible refine bstep ?_ (by assumption))))
  · rw [hr] at HR
    simp only [Bool.true_and]
    clear hr
    have HF := Lib.hid (fun W => fits_impl x y W)
    go_enter Try.func37, Try.ntmps37
    go_wp2_with fail
    refine (HR.out _ (by (repeat (first | with_reducible exact Below.refl _ _ | with_reducible assumption | with_reducible refine balloc ?_ _ | with_reducible refine bdrew ?_ | with_reducible refine below_drewN ?_ _ | with_reducible refine bset ?_ ?_ _ | with_reducible exact Nat.le_refl _ | with_reducible refine bsize ?_ | (dsimp only; refine Nat.le_trans ?_ (Nat.le_add_right _ _)) | with_reducible refine Nat.le_trans ?_ (Nat.le_add_right _ _) | (with_reducible refine bstep ?_ (by assumption)))))).mono ?_
    rintro e w1 ⟨rfl, hb1⟩
    have ha1 : Below w.heap.size w w1 := by (repeat (first | with_reducible exact Below.refl _ _ | with_reducible assumption | with_reducible refine balloc ?_ _ | with_reducible refine bdrew ?_ | with_reducible refine below_drewN ?_ _ | with_reducible refine bset ?_ ?_ _ | with_reducible exact Nat.le_refl _ | with_reducible refine bsize ?_ | (dsimp only; refine Nat.le_trans ?_ (Nat.le_add_right _ _)) | with_reducible refine Nat.le_trans ?_ (Nat.le_add_right _ _) | (with_reducible refine bstep ?_ (by assumption))))
    go_wp2_with fail
    refine (HF.out _).mono ?_
    rintro e w2 ⟨rfl, hb2⟩
    go_wp2
    refine bodyPost_ret (v := .tuple #[.bool (decide (x ≤ y)), .bool true]) (by simp only [results, Try.results37]; go_simp) rfl ⟨rfl, ?_⟩
    (repeat (first | with_reducible exact Below.refl _ _ | with_reducible assumption | with_reducible refine balloc ?_ _ | with_reducible refine bdrew ?_ | with_reducible refine below_drewN ?_ _ | with_reducible refine bset ?_ ?_ _ | with_reducible exact Nat.le_refl _ | with_reducible refine bsize ?_ | (dsimp only; refine Nat.le_trans ?_ (Nat.le_add_right _ _)) | with_reducible refine Nat.le_trans ?_ (Nat.le_add_right _ _) | (with_reducible refine bstep ?_ (by assumption))))
end Go.Proofs.Ytngoibohkckgpaa

/- The farthest well in reach, of the program. -/
namespace Go.Proofs.Ytngoibohkckgpaa
open Go.Shelf Go.ChangeShapes Go.WideShapes Go.ChangeAt Go.RowKit Go.Joins
set_option maxRecDepth 100000
set_option linter.unusedVariables false
set_option linter.unusedSimpArgs false

attribute [local go_sem] Oper.semAt_some

set_option maxHeartbeats 1600000 in
theorem near_impl (p q : Int × Int) (hp : amB p.1 p.2 = true) (hq : amB q.1 q.2 = true) (w : World) :
    Calls Try.prog 48 #[.agg #[.int .i64 p.1, .int .i64 p.2], .agg #[.int .i64 q.1, .int .i64 q.2]] w fun e w' => e = .returned (.bool (nrB p q)) ∧ Below w.heap.size w w' := by
  have ap := am_of _ _ hp
  have aq := am_of _ _ hq
  have bp1 := ap.a; have bp2 := ap.b; have bp3 := ap.c; have bp4 := ap.d
  have bq1 := aq.a; have bq2 := aq.b; have bq3 := aq.c; have bq4 := aq.d
  have HL := Lib.hid (fun W => minus_pub_impl q.1 q.2 p.1 p.2 (by omega) (by omega) (by omega) (by omega) W)
  have hok : okk q.1 q.2 p.1 p.2 = true := by simp [okk, hp, hq]
  rw [hok, (two_yes _ _).1, (two_yes _ _).2.1, (two_yes _ _).2.2] at HL
  cases hl : lowB (q.1 * p.2 - p.1 * q.2) (q.2 * p.2)
  · have e : nrB p q = false := by simp [nrB, hl]
    rw [hl] at HL
    rw [e]
    clear e hl hp hq hok ap aq bp1 bp2 bp3 bp4 bq1 bq2 bq3 bq4
    generalize lowN (q.1 * p.2 - p.1 * q.2) (q.2 * p.2) = gx at *
    generalize lowD (q.1 * p.2 - p.1 * q.2) (q.2 * p.2) = gy at *
    go_enter Try.func48, Try.ntmps48
    go_wp2_with fail
    refine (HL.out _).mono ?_
    rintro e w1 ⟨rfl, hb1⟩
    go_wp2
    go_ret
    refine ⟨rfl, ?_⟩
    (repeat (first | with_reducible exact Below.refl _ _ | with_reducible assumption | with_reducible refine balloc ?_ _ | with_reducible refine bdrew ?_ | with_reducible refine below_drewN ?_ _ | with_reducible refine bset ?_ ?_ _ | with_reducible exact Nat.le_refl _ | with_reducible refine bsize ?_ | (dsimp only; refine Nat.le_trans ?_ (Nat.le_add_right _ _)) | with_reducible refine Nat.le_trans ?_ (Nat.le_add_right _ _) | (with_reducible refine bstep ?_ (by assumption))))
  · have e : nrB p q = decide (lowN (q.1 * p.2 - p.1 * q.2) (q.2 * p.2) ≤ lowD (q.1 * p.2 - p.1 * q.2) (q.2 * p.2)) := by unfold nrB; rw [hl, Bool.true_and]; rfl
    rw [hl] at HL
    rw [e]
    clear e hl hp hq hok ap aq bp1 bp2 bp3 bp4 bq1 bq2 bq3 bq4
    generalize lowN (q.1 * p.2 - p.1 * q.2) (q.2 * p.2) = gx at *
    generalize lowD (q.1 * p.2 - p.1 * q.2) (q.2 * p.2) = gy at *
    have HF := Lib.hid (fun W => fits_impl gx gy W)
    go_enter Try.func48, Try.ntmps48
    go_wp2_with fail
    refine (HL.out _).mono ?_
    rintro e w1 ⟨rfl, hb1⟩
    have ha1 : Below w.heap.size w w1 := by (repeat (first | with_reducible exact Below.refl _ _ | with_reducible assumption | with_reducible refine balloc ?_ _ | with_reducible refine bdrew ?_ | with_reducible refine below_drewN ?_ _ | with_reducible refine bset ?_ ?_ _ | with_reducible exact Nat.le_refl _ | with_reducible refine bsize ?_ | (dsimp only; refine Nat.le_trans ?_ (Nat.le_add_right _ _)) | with_reducible refine Nat.le_trans ?_ (Nat.le_add_right _ _) | (with_reducible refine bstep ?_ (by assumption))))
    go_wp2_with fail
    refine (HF.out _).mono ?_
    rintro e w2 ⟨rfl, hb2⟩
    go_wp2
    go_ret
    refine ⟨rfl, ?_⟩
    (repeat (first | with_reducible exact Below.refl _ _ | with_reducible assumption | with_reducible refine balloc ?_ _ | with_reducible refine bdrew ?_ | with_reducible refine below_drewN ?_ _ | with_reducible refine bset ?_ ?_ _ | with_reducible exact Nat.le_refl _ | with_reducible refine bsize ?_ | (dsimp only; refine Nat.le_trans ?_ (Nat.le_add_right _ _)) | with_reducible refine Nat.le_trans ?_ (Nat.le_add_right _ _) | (with_reducible refine bstep ?_ (by assumption))))
/-- The last index below k that has a property. -/
def lastIx (q : Nat → Bool) : Nat → Option Nat
  | 0 => none
  | k + 1 => if q k = true then some k else lastIx q k
theorem lastIx_none {q : Nat → Bool} : ∀ {k : Nat}, (∀ i < k, q i = false) → lastIx q k = none
  | 0, _ => rfl
  | k + 1, h => by
    have h1 := h k (by omega)
    simp only [lastIx, h1]
    exact lastIx_none (fun i hi => h i (by omega))
theorem lastIx_some {q : Nat → Bool} {i : Nat} (h1 : q i = true) : ∀ {k : Nat}, i < k → (∀ j, i < j → j < k → q j = false) → lastIx q k = some i
  | 0, h, _ => by omega
  | k + 1, hi, h => by
    by_cases e : i = k
    · subst e; simp [lastIx, h1]
    · have h2 := h k (by omega) (by omega)
      simp only [lastIx, h2]
      exact lastIx_some h1 (by omega) (fun j h3 h4 => h j h3 (by omega))
/-- The farthest well in reach of a place. -/
def fwW (l : List (Int × Int)) (h : Int × Int) : Option Nat := lastIx (fun i => nrB h (l.getD i (0, 0))) l.length
def fwI (l : List (Int × Int)) (h : Int × Int) : Int := match fwW l h with | some i => (i : Int) | none => 0
def fwB (l : List (Int × Int)) (h : Int × Int) : Bool := match fwW l h with | some i => decide (l.getD i (0, 0) ≠ h) | none => false
theorem am_neq (p q : Int × Int) : ((p.1 == q.1 && p.2 == q.2) = !decide (p ≠ q)) := by
  obtain ⟨a, b⟩ := p
  obtain ⟨c, d⟩ := q
  by_cases h1 : a = c <;> by_cases h2 : b = d <;> simp [h1, h2]
set_option maxHeartbeats 6400000 in
theorem farW_impl (n d : Int) (v : Value) (l : List (Int × Int)) (h0 : Int × Int) (hh : amB h0.1 h0.2 = true) (hP : ∀ p ∈ l, amB p.1 p.2 = true) (hln : l.length ≤ 1000000) (w : World) (hrow : RowG 2 fAmt w v l) :
    Calls Try.prog 65 #[.agg #[.int .i64 n, .int .i64 d, v], .agg #[.int .i64 h0.1, .int .i64 h0.2]] w fun e w' => e = .returned (.tuple #[.int .i64 (fwI l h0), .bool (fwB l h0)]) ∧ Below w.heap.size w w' := by
  obtain ⟨h1, h2⟩ := h0
  have HN := Lib.hid (fun p hp W => near_impl (h1, h2) p hh hp W)
  simp only at hh HN ⊢
  have hI := Lib.hid hrow
  obtain ⟨av, cv, hv, hl1, hl2⟩ := row_shape hrow
  clear hrow
  have hsv : Hid (v = .slice av l.length cv) := Lib.hid hv
  clear hl1 hl2 hv
  refine (callsIn_wide (n := 3)).1 ?_
  refine callsIn_of_wp_marks Try.func65 rfl trivial ?_ rfl
  simp only [Try.ntmps65, List.size_toArray, List.length_cons, List.length_nil, Nat.reduceAdd, Nat.reduceSub, Array.replicate_succ, Array.replicate_zero, List.push_toArray, List.append_toArray, List.nil_append, List.cons_append]
  gi_wp2_with (refine ⟨trivial, ?_⟩; gi_at_call 53; refine (bwd_in Fence.wide 2 trivial rfl _ _ ⟨_, _, _, hsv.out⟩).mono ?_; rintro e w' ⟨rfl, rfl⟩)
  have b1 := (((Blk.new (w.alloc (.cells #[.int .i64 n, .int .i64 d, v] 34)) #[.int .i64 h1, .int .i64 h2] 31).alloc (.cells #[.int .i64 0] 3)).alloc (.cells #[.bool false] 4)).alloc (.cells #[v] 32)
  have b2 := ((Blk.new ((w.alloc (.cells #[.int .i64 n, .int .i64 d, v] 34)).alloc (.cells #[.int .i64 h1, .int .i64 h2] 31)) #[.int .i64 0] 3).alloc (.cells #[.bool false] 4)).alloc (.cells #[v] 32)
  have b3 := (Blk.new (((w.alloc (.cells #[.int .i64 n, .int .i64 d, v] 34)).alloc (.cells #[.int .i64 h1, .int .i64 h2] 31)).alloc (.cells #[.int .i64 0] 3)) #[.bool false] 4).alloc (.cells #[v] 32)
  have b4 := Blk.new ((((w.alloc (.cells #[.int .i64 n, .int .i64 d, v] 34)).alloc (.cells #[.int .i64 h1, .int .i64 h2] 31)).alloc (.cells #[.int .i64 0] 3)).alloc (.cells #[.bool false] 4)) #[v] 32
  simp only [World.size_alloc] at b1 b2 b3 b4
  have hB0 : Below w.heap.size w (((((w.alloc (.cells #[.int .i64 n, .int .i64 d, v] 34)).alloc (.cells #[.int .i64 h1, .int .i64 h2] 31)).alloc (.cells #[.int .i64 0] 3)).alloc (.cells #[.bool false] 4)).alloc (.cells #[v] 32)) := by (repeat (first | with_reducible exact Below.refl _ _ | with_reducible assumption | with_reducible refine balloc ?_ _ | with_reducible refine bdrew ?_ | with_reducible refine below_drewN ?_ _ | with_reducible refine bset ?_ ?_ _ | with_reducible exact Nat.le_refl _ | with_reducible refine bsize ?_ | (dsimp only; refine Nat.le_trans ?_ (Nat.le_add_right _ _)) | with_reducible refine Nat.le_trans ?_ (Nat.le_add_right _ _) | (with_reducible refine bstep ?_ (by assumption))))
  have hsz : (((((w.alloc (.cells #[.int .i64 n, .int .i64 d, v] 34)).alloc (.cells #[.int .i64 h1, .int .i64 h2] 31)).alloc (.cells #[.int .i64 0] 3)).alloc (.cells #[.bool false] 4)).alloc (.cells #[v] 32)).heap.size = w.heap.size + 5 := by simp
  obtain ⟨W0, hW0⟩ : ∃ W0, (((((w.alloc (.cells #[.int .i64 n, .int .i64 d, v] 34)).alloc (.cells #[.int .i64 h1, .int .i64 h2] 31)).alloc (.cells #[.int .i64 0] 3)).alloc (.cells #[.bool false] 4)).alloc (.cells #[v] 32)) = W0 := ⟨_, rfl⟩
  rw [hW0] at b1 b2 b3 b4 hB0 hsz ⊢
  clear hW0
  have hc4 := b4.cell 0
  simp only [List.getElem?_toArray, List.getElem?_cons_zero] at hc4
  refine wpIn_rangeFunc_ownH rfl (by omega) (gf := 75) (lb := #[.pointer (some ⟨w.heap.size + 1 + 1 + 1 + 1, 0, none⟩)]) rfl trivial (enters_of Try.func75 (by kernel_rfl) rfl)
    (bwd_stops Fence.wide 2 trivial rfl (by omega) (w.heap.size + 1 + 1 + 1 + 1) W0.heap.size v l w hI.out hln hP W0 hB0 (by omega) (Nat.le_refl _) (by omega) hc4) belowK_t (belowK_b (Nat.le_refl _)) (Below.refl _ _) (fun _ => rfl)
    (fun pre W => ((((∀ x ∈ pre, nrB (h1, h2) (sxA x) = false) ∧ Blk (w.heap.size + 1) #[.int .i64 h1, .int .i64 h2] 31 W) ∧ Blk (w.heap.size + 1 + 1) #[.int .i64 0] 3 W) ∧ Blk (w.heap.size + 1 + 1 + 1) #[.bool false] 4 W) ∧ Below W0.heap.size W0 W)
    (fun c pre W => (((c = .ret ∧ ∃ ini last, pre = ini ++ [last] ∧ (∀ x ∈ ini, nrB (h1, h2) (sxA x) = false) ∧ nrB (h1, h2) (sxA last) = true ∧ W.cell? ⟨w.heap.size + 1 + 1, 0, none⟩ = some (.int .i64 (sxI last : Int)) ∧ W.cell? ⟨w.heap.size + 1 + 1 + 1, 0, none⟩ = some (.bool (decide (sxA last ≠ (h1, h2))))))) ∧ Below w.heap.size w W)
    (OwnFrom.and (OwnFrom.and (OwnFrom.and (OwnFrom.and (ownFrom_pure _ _) (Own.from (blk_own _ _ _) _)) (Own.from (blk_own _ _ _) _)) (Own.from (blk_own _ _ _) _)) (ownFrom_below (Nat.le_refl _) (Nat.le_refl _)))
    (fun c => OwnFrom.and (Own.from (fun s A B row hs hg hr => by obtain ⟨e0, ini, last, e1, e2, e3, e4, e5⟩ := hs; exact ⟨e0, ini, last, e1, e2, e3, cell_kept e4 hg hr, cell_kept e5 hg hr⟩) _) (ownFrom_below (Nat.le_refl _) (by omega)))
    ⟨⟨⟨⟨by simp, b1⟩, b2⟩, b3⟩, Below.refl _ _⟩
    (fun x a' W => ∃ Bx, w.heap.size + 1 + 1 + 1 + 1 < Bx ∧ Blk Bx #[.int .i64 (sxA x).1, .int .i64 (sxA x).2] 31 W ∧ a' = { tmps := #[.agg #[.int .i64 n, .int .i64 d, v], .agg #[.int .i64 h1, .int .i64 h2], .pointer (some ⟨w.heap.size, 0, none⟩), .pointer (some ⟨w.heap.size + 1, 0, none⟩), .pointer (some ⟨w.heap.size + 1 + 1, 0, none⟩), .pointer (some ⟨w.heap.size + 1 + 1 + 1, 0, none⟩), .int .i64 (sxI x : Int), .pointer (some ⟨Bx, 0, none⟩), .pointer (some ⟨w.heap.size, 2, none⟩), v, .func (.func 75) #[] #[.pointer (some ⟨w.heap.size + 1 + 1 + 1 + 1, 0, none⟩)], .int .i64 (sxI x : Int), .agg #[.int .i64 (sxA x).1, .int .i64 (sxA x).2], undef, undef, undef, undef, undef, undef, undef], defers := [] })
    (fun x a' _ X Y row hs hg hr => by obtain ⟨Bx, e1, e2, e3⟩ := hs; exact ⟨Bx, e1, blk_own Bx 31 (fun (_ : Unit) => #[.int .i64 (sxA x).1, .int .i64 (sxA x).2]) () X Y row e2 hg (fun r e => (hr r e).2), e3⟩)
    ?assign ?body ?done ?stop
  case assign =>
    rintro lp pre x W K ⟨⟨⟨⟨hp, c1⟩, c2⟩, c3⟩, hB⟩ hK
    unfold encB
    gi_wp2
    exact hK _ _ ((KeepsOthers.alloc _ _).from _) ((Below.refl _ W).alloc hB.size _) ⟨⟨⟨⟨hp, c1.alloc _⟩, c2.alloc _⟩, c3.alloc _⟩, hB.alloc hB.size _⟩ ⟨W.heap.size, by have := hB.size; omega, Blk.new W _ _, rfl⟩
  case body =>
    rintro lp pre x a' W hl ⟨r, hr⟩ ⟨⟨⟨⟨hp, c1⟩, c2⟩, c3⟩, hB⟩ ⟨Bx, hBx, bX, rfl⟩ hlt
    have hW := hB.size
    have k0 := c1.cell 0
    have k1 := c1.cell 1
    have x0 := bX.cell 0
    have x1 := bX.cell 1
    simp only [List.getElem?_toArray, List.getElem?_cons_zero, List.getElem?_cons_succ] at k0 k1 x0 x1
    have HX := HN.out (sxA x) (sxA_am x)
    have HQ : ∀ W1 : World, Below W.heap.size W W1 → KeepsFrom W0.heap.size W W1 := fun W1 hb => ⟨hb.size, fun k o _ hk _ => (hb.block k (Array.getElem?_eq_some_iff.1 hk).1).trans hk⟩
    cases hq : nrB (h1, h2) (sxA x)
    · rw [hq] at HX
      have hpre : ∀ y ∈ pre ++ [x], nrB (h1, h2) (sxA y) = false := fun y hy => (List.mem_append.1 hy).elim (hp y) (fun e => by simp at e; subst e; exact hq)
      have HPRE := Lib.hid hpre
      clear hpre hp hq
      gi_wp2_with (refine ⟨trivial, ?_⟩; gi_at_call 48; refine (CallsIn.inRound lp (callsIn_wide.2 (HX _))).mono ?_; rintro e w1 ⟨rfl, hb1⟩)
      exact ⟨HQ _ hb1, hb1.mono hW, ⟨⟨⟨HPRE.out, c1.later hb1⟩, c2.later hb1⟩, c3.later hb1⟩, bstep hB hb1⟩
    · rw [hq] at HX
      have HIX := Lib.hid (And.intro hp hq)
      clear hp hq
      generalize hs : sxA x = s at *
      have HSX := Lib.hid hs
      clear hs
      generalize hix : sxI x = ix at *
      have HIXX := Lib.hid hix
      clear hix
      obtain ⟨s1, s2⟩ := s
      simp only at bX x0 x1 HX
      have hD : ∃ z : Bool, Hid (decide ((s1, s2) ≠ (h1, h2)) = z) ∧ ((z = false ∧ s1 = h1 ∧ s2 = h2) ∨ (z = true ∧ s1 = h1 ∧ ¬ s2 = h2) ∨ (z = true ∧ ¬ s1 = h1)) := by
        by_cases q1 : s1 = h1
        · by_cases q2 : s2 = h2
          · exact ⟨false, Lib.hid (by simp [q1, q2]), Or.inl ⟨rfl, q1, q2⟩⟩
          · exact ⟨true, Lib.hid (by simp [q1, q2]), Or.inr (Or.inl ⟨rfl, q1, q2⟩)⟩
        · exact ⟨true, Lib.hid (by simp [q1]), Or.inr (Or.inr ⟨rfl, q1⟩)⟩
      obtain ⟨z, hz, hD⟩ := hD
      rcases hD with ⟨rfl, rfl, rfl⟩ | ⟨rfl, rfl, q2⟩ | ⟨rfl, q1⟩
      · gi_wp2_with (refine ⟨trivial, ?_⟩; gi_at_call 48; refine (CallsIn.inRound lp (callsIn_wide.2 (HX _))).mono ?_; rintro e w1 ⟨rfl, hb1⟩; (have d1 := c1.later hb1); (have d2 := c2.later hb1); (have d3 := c3.later hb1); (have dX := bX.later hb1); (have y0 := d1.cell 0); (have y1 := d1.cell 1); (have z0 := dX.cell 0); (have z1 := dX.cell 1); (have u0 := d2.cell 0); (have u1 := d3.cell 0); (have f0 := d2.frozen 0); (have f1 := d3.frozen 0); (simp only [List.getElem?_toArray, List.getElem?_cons_zero, List.getElem?_cons_succ] at y0 y1 z0 z1 u0 u1); (have HKF := Lib.hid (HQ w1 hb1)); (have HBW := Lib.hid (bstep hB0 (bstep hB hb1))))
        clear HX HQ hB hb1 c1 c2 c3 bX d1 d2 d3 dX k0 k1 x0 x1
        gi_region
        all_goals gi_wp2
        all_goals
          have t1 : (w1.setCell ⟨w.heap.size + 1 + 1, 0, none⟩ (.int .i64 (ix : Int))).cell? ⟨w.heap.size + 1 + 1 + 1, 0, none⟩ = some (.bool false) := by rw [World.cell?_setCell_far _ _ _ _ (by simp)]; exact u1
          have t0 : (w1.setCell ⟨w.heap.size + 1 + 1, 0, none⟩ (.int .i64 (ix : Int))).cell? ⟨w.heap.size + 1 + 1, 0, none⟩ = some (.int .i64 (ix : Int)) := World.cell?_setCell_same' _ _ _ (by rw [u0]; rfl)
          exact ⟨HKF.out.trans (((KeepsOthers.setCell w1 _ _).trans (KeepsOthers.setCell _ _ _)).trans (KeepsOthers.drew _) |>.from _), ⟨rfl, pre, x, rfl, HIX.out.1, by rw [HSX.out]; exact HIX.out.2, by rw [HIXX.out]; exact (World.cell?_setCell_far _ _ _ _ (by simp)).trans t0, by rw [HSX.out, hz.out]; exact World.cell?_setCell_same' _ _ _ (by rw [t1]; rfl)⟩, bdrew (bset (bset HBW.out (by simp; omega) _) (by simp; omega) _)⟩
      · gi_wp2_with (refine ⟨trivial, ?_⟩; gi_at_call 48; refine (CallsIn.inRound lp (callsIn_wide.2 (HX _))).mono ?_; rintro e w1 ⟨rfl, hb1⟩; (have d1 := c1.later hb1); (have d2 := c2.later hb1); (have d3 := c3.later hb1); (have dX := bX.later hb1); (have y0 := d1.cell 0); (have y1 := d1.cell 1); (have z0 := dX.cell 0); (have z1 := dX.cell 1); (have u0 := d2.cell 0); (have u1 := d3.cell 0); (have f0 := d2.frozen 0); (have f1 := d3.frozen 0); (simp only [List.getElem?_toArray, List.getElem?_cons_zero, List.getElem?_cons_succ] at y0 y1 z0 z1 u0 u1); (have HKF := Lib.hid (HQ w1 hb1)); (have HBW := Lib.hid (bstep hB0 (bstep hB hb1))))
        clear HX HQ hB hb1 c1 c2 c3 bX d1 d2 d3 dX k0 k1 x0 x1
        gi_region
        all_goals gi_wp2
        all_goals
          have t1 : (w1.setCell ⟨w.heap.size + 1 + 1, 0, none⟩ (.int .i64 (ix : Int))).cell? ⟨w.heap.size + 1 + 1 + 1, 0, none⟩ = some (.bool false) := by rw [World.cell?_setCell_far _ _ _ _ (by simp)]; exact u1
          have t0 : (w1.setCell ⟨w.heap.size + 1 + 1, 0, none⟩ (.int .i64 (ix : Int))).cell? ⟨w.heap.size + 1 + 1, 0, none⟩ = some (.int .i64 (ix : Int)) := World.cell?_setCell_same' _ _ _ (by rw [u0]; rfl)
          exact ⟨HKF.out.trans (((KeepsOthers.setCell w1 _ _).trans (KeepsOthers.setCell _ _ _)).trans (KeepsOthers.drew _) |>.from _), ⟨rfl, pre, x, rfl, HIX.out.1, by rw [HSX.out]; exact HIX.out.2, by rw [HIXX.out]; exact (World.cell?_setCell_far _ _ _ _ (by simp)).trans t0, by rw [HSX.out, hz.out]; exact World.cell?_setCell_same' _ _ _ (by rw [t1]; rfl)⟩, bdrew (bset (bset HBW.out (by simp; omega) _) (by simp; omega) _)⟩
      · gi_wp2_with (refine ⟨trivial, ?_⟩; gi_at_call 48; refine (CallsIn.inRound lp (callsIn_wide.2 (HX _))).mono ?_; rintro e w1 ⟨rfl, hb1⟩; (have d1 := c1.later hb1); (have d2 := c2.later hb1); (have d3 := c3.later hb1); (have dX := bX.later hb1); (have y0 := d1.cell 0); (have y1 := d1.cell 1); (have z0 := dX.cell 0); (have z1 := dX.cell 1); (have u0 := d2.cell 0); (have u1 := d3.cell 0); (have f0 := d2.frozen 0); (have f1 := d3.frozen 0); (simp only [List.getElem?_toArray, List.getElem?_cons_zero, List.getElem?_cons_succ] at y0 y1 z0 z1 u0 u1); (have HKF := Lib.hid (HQ w1 hb1)); (have HBW := Lib.hid (bstep hB0 (bstep hB hb1))))
        clear HX HQ hB hb1 c1 c2 c3 bX d1 d2 d3 dX k0 k1 x0 x1
        gi_region
        all_goals gi_wp2
        all_goals
          have t1 : (w1.setCell ⟨w.heap.size + 1 + 1, 0, none⟩ (.int .i64 (ix : Int))).cell? ⟨w.heap.size + 1 + 1 + 1, 0, none⟩ = some (.bool false) := by rw [World.cell?_setCell_far _ _ _ _ (by simp)]; exact u1
          have t0 : (w1.setCell ⟨w.heap.size + 1 + 1, 0, none⟩ (.int .i64 (ix : Int))).cell? ⟨w.heap.size + 1 + 1, 0, none⟩ = some (.int .i64 (ix : Int)) := World.cell?_setCell_same' _ _ _ (by rw [u0]; rfl)
          exact ⟨HKF.out.trans (((KeepsOthers.setCell w1 _ _).trans (KeepsOthers.setCell _ _ _)).trans (KeepsOthers.drew _) |>.from _), ⟨rfl, pre, x, rfl, HIX.out.1, by rw [HSX.out]; exact HIX.out.2, by rw [HIXX.out]; exact (World.cell?_setCell_far _ _ _ _ (by simp)).trans t0, by rw [HSX.out, hz.out]; exact World.cell?_setCell_same' _ _ _ (by rw [t1]; rfl)⟩, bdrew (bset (bset HBW.out (by simp; omega) _) (by simp; omega) _)⟩
  case done =>
    rintro D ys W hD rfl ⟨⟨⟨⟨hp, c1⟩, c2⟩, c3⟩, hB⟩ hK
    have u0 := c2.cell 0
    have u1 := c3.cell 0
    have f0 := c2.frozen 0
    have f1 := c3.frozen 0
    simp only [List.getElem?_toArray, List.getElem?_cons_zero] at u0 u1
    have HPP := Lib.hid hp
    clear hp
    gi_wp2
    have hK' := ((KeepsOthers.setCell W ⟨w.heap.size + 1 + 1, 0, none⟩ (.int .i64 0)).trans (KeepsOthers.setCell _ ⟨w.heap.size + 1 + 1 + 1, 0, none⟩ (.bool false))).same D _ hK rfl
    refine ⟨by simp, .inl ⟨_, _, rfl, run_takeDeferred hK', ?_⟩⟩
    have t1 : (W.setCell ⟨w.heap.size + 1 + 1, 0, none⟩ (.int .i64 0)).cell? ⟨w.heap.size + 1 + 1 + 1, 0, none⟩ = some (.bool false) := by rw [World.cell?_setCell_far _ _ _ _ (by simp)]; exact u1
    have t0 : (W.setCell ⟨w.heap.size + 1 + 1, 0, none⟩ (.int .i64 0)).cell? ⟨w.heap.size + 1 + 1, 0, none⟩ = some (.int .i64 0) := World.cell?_setCell_same' _ _ _ (by rw [u0]; rfl)
    have hc5 := cell_kept ((World.cell?_setCell_far _ ⟨w.heap.size + 1 + 1 + 1, 0, none⟩ _ (.bool false) (by simp)).trans t0) (grownBy_putObj' _ D (.deferred none)) (fun r e => by cases e; exact ⟨_, hK', rfl⟩)
    have hc6 := cell_kept (World.cell?_setCell_same' (W.setCell ⟨w.heap.size + 1 + 1, 0, none⟩ (.int .i64 0)) ⟨w.heap.size + 1 + 1 + 1, 0, none⟩ (.bool false) (by rw [t1]; rfl)) (grownBy_putObj' _ D (.deferred none)) (fun r e => by cases e; exact ⟨_, hK', rfl⟩)
    have hno : fwW l (h1, h2) = none := lastIx_none (fun i hi => by
      have h := HPP.out (i, l.getD i (0, 0)) ((bwU_mem (Nat.le_refl _)).2 ⟨by omega, hi, rfl⟩)
      rw [sxA_is (hP _ (by rw [List.getD_eq_getElem?_getD, List.getElem?_eq_getElem hi]; exact List.getElem_mem hi))] at h
      exact h)
    refine ⟨.tuple #[.int .i64 0, .bool false], ?_, by simp [fwI, fwB, hno], ?_⟩
    · simp [results, Try.f65, go_sem, hc5, hc6]
    · exact (bset (bset (bstep hB0 hB) (by simp; omega) _) (by simp; omega) _).trans (belowK_b (w := w) (Nat.le_refl _) _ D _ _ (by omega) hK' rfl rfl)
  case stop =>
    rintro D c pre W hD ⟨k, hk, rfl⟩ ⟨⟨rfl, ini, last, e1, e2, e3, e4, e5⟩, hB⟩ hK
    gi_wp2
    refine ⟨by simp, .inl ⟨_, _, rfl, run_takeDeferred hK, ?_⟩⟩
    have hc5 := cell_kept e4 (grownBy_putObj' _ D (.deferred none)) (fun r e => by cases e; exact ⟨_, hK, rfl⟩)
    have hc6 := cell_kept e5 (grownBy_putObj' _ D (.deferred none)) (fun r e => by cases e; exact ⟨_, hK, rfl⟩)
    obtain ⟨k', rfl⟩ : ∃ k', k = k' + 1 := by
      cases k with
      | zero => simp [bwU] at e1
      | succ k' => exact ⟨k', rfl⟩
    rw [bwU_succ] at e1
    obtain ⟨rfl, e6⟩ := List.append_inj' e1 rfl
    have e7 : (l.length - 1 - k', l.getD (l.length - 1 - k') (0, 0)) = last := by simpa using e6
    have hii : l.length - 1 - k' < l.length := by omega
    have hga : ∀ i, i < l.length → amB (l.getD i (0, 0)).1 (l.getD i (0, 0)).2 = true := fun i hi => hP _ (by rw [List.getD_eq_getElem?_getD, List.getElem?_eq_getElem hi]; exact List.getElem_mem hi)
    have hsA : sxA last = l.getD (l.length - 1 - k') (0, 0) := by rw [← e7]; exact sxA_is (hga _ hii)
    have hsI : sxI last = l.length - 1 - k' := by rw [← e7]; exact sxI_is (by omega)
    have hw : fwW l (h1, h2) = some (l.length - 1 - k') := lastIx_some (by rw [← hsA]; exact e3) hii (fun j hj hj2 => by
      have h := e2 (j, l.getD j (0, 0)) ((bwU_mem (by omega)).2 ⟨by omega, hj2, rfl⟩)
      rw [sxA_is (hga _ hj2)] at h
      exact h)
    refine ⟨.tuple #[.int .i64 (sxI last : Int), .bool (decide (sxA last ≠ (h1, h2)))], ?_, by simp [fwI, fwB, hw, hsA, hsI], ?_⟩
    · simp [results, Try.f65, go_sem, hc5, hc6]
    · exact hB.trans (belowK_b (w := w) (Nat.le_refl _) W D _ _ (by omega) hK rfl rfl)
end Go.Proofs.Ytngoibohkckgpaa

/- A block of two cells that may be written: what a result of two cells lies in. -/
namespace Go.Proofs.Ytngoibohkckgpaa
open Go.RowKit
set_option linter.unusedVariables false
set_option linter.unusedSimpArgs false

def Res9 (b : Nat) (w : World) : Prop := ∃ x y, w.cell? ⟨b, 0, none⟩ = some x ∧ w.cell? ⟨b, 1, none⟩ = some y ∧ w.frozen? ⟨b, 0, none⟩ = false ∧ w.frozen? ⟨b, 1, none⟩ = false ∧ b < w.heap.size
theorem Res9.later {b : Nat} {w w' : World} (h : Res9 b w) (hb : Below w.heap.size w w') : Res9 b w' := by
  obtain ⟨x, y, a1, a2, a3, a4, a5⟩ := h
  exact ⟨x, y, keepa hb a5 a1, keepa hb a5 a2, keepf hb a5 a3, keepf hb a5 a4, Nat.lt_of_lt_of_le a5 hb.size⟩
theorem Res9.drew {b : Nat} {w : World} (h : Res9 b w) : Res9 b w.drew := h.later (bdrew (Below.refl _ _))
theorem Res9.alloc {b : Nat} {w : World} (h : Res9 b w) (o : Obj) : Res9 b (w.alloc o) := h.later (balloc (Below.refl _ _) o)
theorem Res9.set {b : Nat} {w : World} (h : Res9 b w) (o : Nat) (v : Value) (ho : o < 2) : Res9 b (w.setCell ⟨b, o, none⟩ v) := by
  obtain ⟨x, y, a1, a2, a3, a4, a5⟩ := h
  have hc : o = 0 ∨ o = 1 := by omega
  rcases hc with rfl | rfl
  · exact ⟨v, y, by simp [go_sem, a1, a2, a5], by simp [go_sem, a1, a2, a5], by simp [go_sem, a3], by simp [go_sem, a4], by simpa using a5⟩
  · exact ⟨x, v, by simp [go_sem, a1, a2, a5], by simp [go_sem, a1, a2, a5], by simp [go_sem, a3], by simp [go_sem, a4], by simpa using a5⟩
theorem Res9.grown {b : Nat} {w w' : World} (h : Res9 b w) {row : Option Nat} (hg : w.grownBy w' row) (hne : some b ≠ row) : Res9 b w' := by
  obtain ⟨x, y, a1, a2, a3, a4, a5⟩ := h
  exact ⟨x, y, hg.cell a1 hne, hg.cell a2 hne, grown_frozen hg a3 a5 hne, grown_frozen hg a4 a5 hne, Nat.lt_of_lt_of_le a5 hg.size⟩
theorem Res9.new (w : World) (x y : Value) (t : TypeId) : Res9 w.heap.size (w.alloc (.cells #[x, y] t)) :=
  ⟨x, y, by simp, by simp, by simp, by simp, by simp⟩
end Go.Proofs.Ytngoibohkckgpaa

/- Going on from stop to stop, of the program. -/
namespace Go.Proofs.Ytngoibohkckgpaa
open Go.ChangeShapes Go.WideShapes Go.ChangeAt Go.RowKit Go.Joins
set_option maxRecDepth 100000
set_option linter.unusedVariables false
set_option linter.unusedSimpArgs false


/-- The way to a label and the way around it, once. -/
theorem wp_scope_once {P : Program} {a : Act} {w : World} {Q : Exit → Act → World → Prop} {c rest : Code} (l : Nat) (J : Act → World → Prop) (μ : Act → World → Nat) (hf : findLabel c l = some (Code.skip.seq rest))
    (pass : ∀ a w, J a w → rest.wp P (Exit.jump l (fun a' w' => J a' w' ∧ μ a' w' < μ a w) Q) a w)
    (first : (∀ a w, J a w → rest.wp P (Exit.jump l J Q) a w) → c.wp P (Exit.jump l J Q) a w) : (Code.scope c).wp P Q a w :=
  wp_scope_jumps l J μ hf (first fun a w h => Code.wp_mono (fun e a' w' hh => by
    cases e <;> first | exact hh | exact ⟨hh.1, hh.2.1⟩) (pass a w h)) (fun a w h => wp_seq (wp_skip (pass a w h)))
def lenG (v : Value) : Nat := match v with | .slice _ n _ => n | _ => 0
/-- A place in a block that is written. -/
structure HereAt (g : Nat) (p : Int × Int) (W : World) : Prop where
  c0 : W.cell? ⟨g, 0, none⟩ = some (.int .i64 p.1)
  c1 : W.cell? ⟨g, 1, none⟩ = some (.int .i64 p.2)
  z0 : W.frozen? ⟨g, 0, none⟩ = false
  z1 : W.frozen? ⟨g, 1, none⟩ = false
  hs : g < W.heap.size
theorem HereAt.later {g : Nat} {p : Int × Int} {W W' : World} (h : HereAt g p W) (hb : Below W.heap.size W W') : HereAt g p W' :=
  ⟨keepa hb h.hs h.c0, keepa hb h.hs h.c1, keepf hb h.hs h.z0, keepf hb h.hs h.z1, Nat.lt_of_lt_of_le h.hs hb.size⟩
theorem HereAt.grown {g : Nat} {p : Int × Int} {W W' : World} (h : HereAt g p W) {row : Option Nat} (hg : W.grownBy W' row) (hne : some g ≠ row) : HereAt g p W' :=
  ⟨hg.cell h.c0 hne, hg.cell h.c1 hne, grown_frozen hg h.z0 h.hs hne, grown_frozen hg h.z1 h.hs hne, Nat.lt_of_lt_of_le h.hs hg.size⟩
theorem HereAt.new (W : World) (p : Int × Int) (t : TypeId) : HereAt W.heap.size p (W.alloc (.cells #[.int .i64 p.1, .int .i64 p.2] t)) :=
  ⟨by simp, by simp, by simp, by simp, by simp⟩
theorem HereAt.put {g : Nat} {p : Int × Int} {W : World} (h : HereAt g p W) (q : Int × Int) : HereAt g q ((W.setCell ⟨g, 0, none⟩ (.int .i64 q.1)).setCell ⟨g, 1, none⟩ (.int .i64 q.2)) := by
  have c0 := h.c0; have c1 := h.c1; have z0 := h.z0; have z1 := h.z1; have hs := h.hs
  exact ⟨by simp [go_sem, c0, c1, hs], by simp [go_sem, c0, c1, hs], by simp [go_sem, z0], by simp [go_sem, z1], by simpa using hs⟩
theorem Res9.far {b : Nat} {w : World} (h : Res9 b w) {a : Addr} (v : Value) (hne : a.block ≠ b) : Res9 b (w.setCell a v) := by
  obtain ⟨x, y, a1, a2, a3, a4, a5⟩ := h
  exact ⟨x, y, by rw [World.cell?_setCell_far _ _ _ _ hne]; exact a1, by rw [World.cell?_setCell_far _ _ _ _ hne]; exact a2, by rw [World.frozen?_setCell]; exact a3, by rw [World.frozen?_setCell]; exact a4, by simpa using a5⟩
theorem RdAt.far {g : Nat} {n d : Int} {v : Value} {W : World} (h : RdAt g n d v W) {a : Addr} (x : Value) (hne : a.block ≠ g) : RdAt g n d v (W.setCell a x) :=
  ⟨by rw [World.cell?_setCell_far _ _ _ _ hne]; exact h.1, by rw [World.cell?_setCell_far _ _ _ _ hne]; exact h.2.1, by rw [World.cell?_setCell_far _ _ _ _ hne]; exact h.2.2.1, by simpa using h.2.2.2⟩
theorem RdAt.grown9 {g : Nat} {n d : Int} {v : Value} {W W' : World} (h : RdAt g n d v W) {row : Option Nat} (hg : W.grownBy W' row) (hne : some g ≠ row) : RdAt g n d v W' :=
  ⟨hg.cell h.1 hne, hg.cell h.2.1 hne, hg.cell h.2.2.1 hne, Nat.lt_of_lt_of_le h.2.2.2 hg.size⟩
/-- Stops that are made one behind the other: the j-th one is told at the place hs j, with j made. -/
structure Goes (l : List (Int × Int)) (ws : List Int) (hs : Nat → Int × Int) (ni : Nat → Int) (nb : Nat → Bool) : Prop where
  h0 : hs 0 = (0, 1)
  go : ∀ j x, ws[j]? = some x → nb j = true ∧ ni j = x ∧ ∃ i : Nat, x = (i : Int) ∧ l[i]? = some (hs (j + 1))
  stop : nb ws.length = false
  len : ws.length ≤ 1000
  ll : l.length ≤ 1000000
/-- The state at the label. -/
structure GoSt (w W : World) (n d : Int) (v : Value) (gh : Nat) (p : Int × Int) (s : Value) (j : Nat) (xs : List Value) : Prop where
  r : RdAt w.heap.size n d v W
  o : Res9 (w.heap.size + 1) W
  h : HereAt gh p W
  hg : w.heap.size + 1 < gh
  own : W.ownsRow (gh + 1) 3 1 s j xs
  bel : Below w.heap.size w W
theorem GoSt.later {w W W' : World} {n d : Int} {v : Value} {gh : Nat} {p : Int × Int} {s : Value} {j : Nat} {xs : List Value} (g : GoSt w W n d v gh p s j xs) (hb : Below W.heap.size W W') : GoSt w W' n d v gh p s j xs :=
  ⟨g.r.later hb, g.o.later hb, g.h.later hb, g.hg, ownsRow_below g.own hb, bstep g.bel hb⟩
theorem GoSt.next {w W W' : World} {n d : Int} {v : Value} {gh : Nat} {p q : Int × Int} {s s' : Value} {j j' : Nat} {xs xs' : List Value} (g : GoSt w W n d v gh p s j xs) (hw : W.ownsRow (gh + 1) 3 1 s' j' xs → True) (hgr : W.grownBy W' s.ownBlock) (hown : W'.ownsRow (gh + 1) 3 1 s' j' xs') :
    GoSt w ((W'.setCell ⟨gh, 0, none⟩ (.int .i64 q.1)).setCell ⟨gh, 1, none⟩ (.int .i64 q.2)) n d v gh q s' j' xs' := by
  have hg := g.hg
  have hne : ∀ b, b ≤ gh → some b ≠ s.ownBlock := fun b hb e => by have := (g.own.lt b e.symm).1; omega
  have hne2 : s'.ownBlock ≠ some gh := own_ne hown (by omega)
  refine ⟨((g.r.grown9 hgr (hne _ (by omega))).far _ (by simp; omega)).far _ (by simp; omega), ((g.o.grown hgr (hne _ (by omega))).far _ (by simp; omega)).far _ (by simp; omega), (g.h.grown hgr (hne _ (Nat.le_refl _))).put q, hg, own_set (own_set hown hne2 _) hne2 _, bset (bset (g.bel.grown hgr g.bel.size (fun k e => by have := (g.own.lt k e).1; omega)) (by simp; omega) _) (by simp; omega) _⟩
set_option maxHeartbeats 6400000 in
theorem goOn_far (n d : Int) (v : Value) (l : List (Int × Int)) (ws : List Int) (hs : Nat → Int × Int) (ni : Nat → Int) (nb : Nat → Bool) (hg : Goes l ws hs ni nb) (g1 g2 : Nat) (w : World) (h : RowG 2 fAmt w v l)
    (HN0 : ∀ (j : Nat) (W : World), j ≤ ws.length → Below w.heap.size w W → Calls Try.prog 64 #[.agg #[.int .i64 (hs j).1, .int .i64 (hs j).2], .int .i64 (j : Int), .pointer (some ⟨g1, 0, none⟩), .pointer (some ⟨g2, 0, none⟩)] W fun e w' => e = .returned (.tuple #[.int .i64 (ni j), .bool (nb j)]) ∧ Below W.heap.size W w') :
    Calls Try.prog 58 #[.agg #[.int .i64 n, .int .i64 d, v], .func (.func 64) #[] #[.pointer (some ⟨g1, 0, none⟩), .pointer (some ⟨g2, 0, none⟩)]] w fun e w' => ∃ s, e = .returned (.tuple #[s, .agg #[.int .i64 (hs ws.length).1, .int .i64 (hs ws.length).2]]) ∧ w'.ownsRow w.heap.size 3 1 s ws.length (cellsG fInt ws) ∧ Below w.heap.size w w' := by
  have HN := Lib.hid HN0
  have HG := Lib.hid hg
  have HR := Lib.hid h
  have hlen := hg.len
  have h00 := hg.h0
  obtain ⟨av, cv, hv, hl1, hl2⟩ := row_shape h
  have HV := Lib.hid hv
  clear HN0 hg h hv
  obtain ⟨i0, hi, hz0, hz1, hz2⟩ := info_parts infoInt
  go_enter Try.func58, Try.ntmps58
  go_upto_region 1 with fail
  refine wp_scope_once 0 (fun a' w' => ∃ (j gh : Nat) (s u8 u9 u11 u12 u13 u14 u15 u16 u17 u18 u19 u20 u21 u22 u23 u24 u25 u26 u27 u28 u29 u30 u31 : Value), a' = { tmps := #[.agg #[.int .i64 n, .int .i64 d, v], .func (.func 64) #[] #[.pointer (some ⟨g1, 0, none⟩), .pointer (some ⟨g2, 0, none⟩)], .pointer (some ⟨w.heap.size, 0, none⟩), undef, .slice none 0 0, .pointer (some ⟨w.heap.size + 1, 0, none⟩), s, .pointer (some ⟨gh, 0, none⟩), u8, u9, .agg #[.int .i64 0, .int .i64 1], u11, u12, u13, u14, u15, u16, u17, u18, u19, u20, u21, u22, u23, u24, u25, u26, u27, u28, u29, u30, u31], defers := [] } ∧ j ≤ ws.length ∧ GoSt w w' n d v gh (hs j) s j (cellsG fInt (ws.take j))) (fun a' _ => ws.length - lenG (a'.tmps.getD 6 undef)) rfl ?pass ?first
  case first =>
    intro hfirst
    go_wp2_with (go_at_call 50; refine (whole_bi 0 _).mono ?_; rintro e w1 ⟨rfl, hb1⟩)
    go_step3
    rename_i hK
    refine hK _ _ (hfirst _ _ ⟨0, w1.heap.size, _, _, _, _, _, _, _, _, _, _, _, _, _, _, _, _, _, _, _, _, _, _, _, _, rfl, Nat.zero_le _, ?_⟩)
    have hz := hb1.size
    rw [h00]
    refine ⟨?_, ?_, HereAt.new w1 (0, 1) 31, ?_, ⟨rfl, .inl ⟨rfl, rfl⟩⟩, ?_⟩
    · exact (((RdAt.new w n d v 34).alloc _).later hb1).alloc _
    · have h := Res9.new (w.alloc (.cells #[.int .i64 n, .int .i64 d, v] 34)) (.int .i64 0) (.int .i64 0) 31
      rw [World.size_alloc] at h
      exact (h.later hb1).alloc _
    · simp at hz; omega
    · (repeat (first | with_reducible exact Below.refl _ _ | with_reducible assumption | with_reducible refine balloc ?_ _ | with_reducible refine bdrew ?_ | with_reducible refine below_drewN ?_ _ | with_reducible refine bset ?_ ?_ _ | with_reducible exact Nat.le_refl _ | with_reducible refine bsize ?_ | (dsimp only; refine Nat.le_trans ?_ (Nat.le_add_right _ _)) | with_reducible refine Nat.le_trans ?_ (Nat.le_add_right _ _) | (with_reducible refine bstep ?_ (by assumption))))
  case pass =>
    rintro a' wr ⟨j, gh, s, u8, u9, u11, u12, u13, u14, u15, u16, u17, u18, u19, u20, u21, u22, u23, u24, u25, u26, u27, u28, u29, u30, u31, rfl, hj, gs⟩
    obtain ⟨hc0, hc1, hz0', hz1', hhs⟩ := id gs.h
    by_cases hlt : j < ws.length
    · obtain ⟨x, hx⟩ : ∃ x, ws[j]? = some x := ⟨_, List.getElem?_eq_getElem hlt⟩
      obtain ⟨hnb, hni, i, hxi, hli⟩ := HG.out.go j x hx
      have HC := Lib.hid (HN.out j)
      rw [hnb, hni] at HC
      have hil : i < l.length := (List.getElem?_eq_some_iff.1 hli).1
      have hllM := HG.out.ll
      have HX := Lib.hid (And.intro hx hli)
      obtain ⟨sa9, sc9, hs0⟩ := owns_shape gs.own
      subst hs0
      subst hxi
      clear hnb hni hx hli
      have GS := Lib.hid gs
      clear gs
      go_wp2_with fail
      refine (HC.out _ hj GS.out.bel).mono ?_
      rintro e w2 ⟨rfl, hb2⟩
      have GS2 := Lib.hid (GS.out.later hb2)
      clear hc0 hc1 hz0' hz1' hhs
      have own2 := GS2.out.own
      have hz2w := GS2.out.h.hs
      have hgg := GS2.out.hg
      go_wp2_with (at_builtin; refine wpList_append_own _ rfl _ _ 28 rfl (gh + 1) 3 i0 (.int .i64 0) 1 8 Try.underlying28 hi hz0 hz1 hz2 rfl (by decide) _ _ _ rfl (own2.alloc _) ⟨w2.heap.size, 0, none⟩ 1 1 [.int .i64 (i : Int)] rfl rfl ?c1 ?c2 ?c3 ?c4 ?c5 ?_)
      case c1 => (intro q u hq; rcases q with _ | q <;> simp at hq; subst hq; simp [go_sem])
      case c2 => simp [Value.oneCell']
      case c3 => unfold maxLen; omega
      case c4 => omega
      case c5 => first | (simp; done) | (simp; omega)
      intro s3 w3 hown3 hgr3 _
      obtain ⟨sb9, sd9, rfl⟩ := owns_shape hown3
      have hgr3' : w2.grownBy w3 (Value.slice sa9 j sc9).ownBlock := grown_trans (World.grownBy_alloc w2 (.cells #[.int .i64 (i : Int)] 3) _) hgr3
      have hown4 : w3.ownsRow (gh + 1) 3 1 (.slice sb9 (j + 1) sd9) (j + 1) (cellsG fInt (ws.take (j + 1))) := by
        have e : ws.take (j + 1) = ws.take j ++ [(i : Int)] := by
          have h := HX.out.1
          obtain ⟨h1, h2⟩ := List.getElem?_eq_some_iff.1 h
          rw [List.take_add_one, h]
          rfl
        rw [e, cellsG_append]
        exact hown3
      have GN := GS2.out.next (q := hs (j + 1)) (fun _ => trivial) hgr3' hown4
      have bel3 : Below w.heap.size w w3 := GS2.out.bel.grown hgr3' GS2.out.bel.size (fun k e => by have := (GS2.out.own.lt k e).1; omega)
      have hne : ∀ b, b ≤ gh → some b ≠ (Value.slice sa9 j sc9).ownBlock := fun b hb e => by have := (GS2.out.own.lt b e.symm).1; omega
      have r3 := GS2.out.r.grown9 hgr3' (hne _ (by omega))
      have h3 := GS2.out.h.grown hgr3' (hne _ (Nat.le_refl _))
      rcases rowG_below HR.out bel3 with ⟨hv, hl⟩ | ⟨a9, cap9, hv, hL⟩
      · rw [hl] at hil; simp at hil
      · obtain ⟨p, hp⟩ : ∃ p, p = hs (j + 1) := ⟨_, rfl⟩
        have hp' : l[i]? = some p := by rw [hp]; exact HX.out.2
        rw [← hp] at GN
        have HP := Lib.hid hp
        clear hp
        have hp := hp'
        have hc := hL.hcell i p hp
        have e0 := hc 0 p.1 rfl
        rw [Nat.add_zero] at e0
        have e1 : w3.cell? ⟨(a9.add (i * 2)).block, (a9.add (i * 2)).off + 1, none⟩ = some (.int .i64 p.2) := by
          have h := hc 1 p.2 rfl
          rw [← Deep.add_add] at h
          exact h
        clear hc
        have hlc9 := hL.hlc
        have hcap9 := hL.hcap
        obtain ⟨q0, q1, q2, qz⟩ := id r3
        rw [hv] at q2
        obtain ⟨t0, t1, tz0, tz1, ths⟩ := id h3
        have GNH := Lib.hid GN
        have e8 : Hid (w3.ownsRow (gh + 1) 3 1 (.slice sb9 (j + 1) sd9) (j + 1) (cellsG fInt (ws.take (j + 1)))) := Lib.hid hown4
        clear GN hL hp hp' hown3 hown4 hgr3 hgr3' own2 hne r3 h3 bel3
        go_wp2
        go_step3
        refine ⟨rfl, ⟨j + 1, gh, .slice sb9 (j + 1) sd9, _, _, _, _, _, _, _, _, _, _, _, _, _, _, _, _, _, _, _, _, _, _, _, rfl, by omega, by rw [← HP.out]; exact GNH.out⟩, ?_⟩
        show ws.length - (j + 1) < ws.length - j
        omega
    · have hjn : j = ws.length := by omega
      subst hjn
      have HC := Lib.hid (HN.out ws.length)
      rw [HG.out.stop] at HC
      obtain ⟨sa9, sc9, hs0⟩ := owns_shape gs.own
      subst hs0
      have GS := Lib.hid gs
      clear gs
      go_wp2_with fail
      refine (HC.out _ (Nat.le_refl _) GS.out.bel).mono ?_
      rintro e w2 ⟨rfl, hb2⟩
      have GS2 := Lib.hid (GS.out.later hb2)
      clear hc0 hc1 hz0' hz1' hhs
      obtain ⟨t0, t1, tz0, tz1, ths⟩ := id GS2.out.h
      obtain ⟨rx, ry, r0, r1, rz0, rz1, rz⟩ := id GS2.out.o
      have hgg := GS2.out.hg
      go_upto_region 5 with fail
      go_region
      all_goals go_wp2
      all_goals simp only [Exit.jump]
      all_goals refine bodyPost_ret (v := .tuple #[.slice sa9 ws.length sc9, .agg #[.int .i64 (hs ws.length).1, .int .i64 (hs ws.length).2]]) (by simp only [results, Try.results58]; go_simp) rfl ?_
      all_goals
        have own2 := GS2.out.own
        rw [List.take_length] at own2
        exact ⟨_, rfl, own_mono (own_drew (own_set (own_set own2 (own_ne own2 (b := w.heap.size + 1) (by omega)) _) (own_ne own2 (b := w.heap.size + 1) (by omega)) _)) (by omega), bdrew (bset (bset GS2.out.bel (by simp) _) (by simp) _)⟩
end Go.Proofs.Ytngoibohkckgpaa

/- Roads: the greedy stops (plain). -/
namespace Go.Proofs.Ytngoibohkckgpaa
open Go.ChangeShapes Go.WideShapes Go.ChangeAt Go.RowKit Go.Joins
set_option maxRecDepth 100000
set_option linter.unusedVariables false
set_option linter.unusedSimpArgs false

theorem rd_lt {n d : Int} {l : List (Int × Int)} (h : rdB n d l = true) (h0 : 0 < l.length) : ∀ (e i : Nat) (p q : Int × Int), (plL n d l)[i]? = some p → (plL n d l)[i + e + 1]? = some q → p.1 * q.2 < q.1 * p.2 := by
  have hI : incB (plL n d l) = true := by
    unfold rdB at h
    simp [show ¬ l.length = 0 by omega] at h
    exact h.2.2
  have hM := rd_mono h
  have hlen : (plL n d l).length = l.length + 1 + 1 := plL_len n d l
  have hone : ∀ i p q, (plL n d l)[i]? = some p → (plL n d l)[i + 1]? = some q → p.1 * q.2 < q.1 * p.2 := by
    intro i p q hp hq
    have hs := hM.st i p q hp hq
    have hi := (List.getElem?_eq_some_iff.1 hq).1
    have h1 := of_decide_eq_true ((List.all_eq_true.1 hI) i (List.mem_range.2 (by omega)))
    rw [cmAt_is _ i p q hp hq, cm_lt hs.ap hs.aq] at h1
    exact h1
  intro e
  induction e with
  | zero => intro i p q hp hq; exact hone i p q hp hq
  | succ e ih =>
    intro i p q hp hq
    have hi := (List.getElem?_eq_some_iff.1 hq).1
    obtain ⟨r, hr⟩ : ∃ r, (plL n d l)[i + e + 1]? = some r := ⟨_, List.getElem?_eq_getElem (by omega)⟩
    have h1 := ih i p r hp hr
    have h2 := hone (i + e + 1) r q hr hq
    have s1 := mono_at hM (by omega : i < i + e + 1) hp hr
    have s2 := mono_at hM (by omega : i + e + 1 < i + (e + 1) + 1) hr hq
    exact ltc_trans (am_of _ _ s1.ap).c (am_of _ _ s1.aq).c (am_of _ _ s2.aq).c h1 h2
/-- The places of a road that can be gone. -/
structure CanP (n d : Int) (l : List (Int × Int)) : Prop where
  rd : rdB n d l = true
  nr : allNr (plL n d l)
theorem canP_of {n d : Int} {l : List (Int × Int)} (h : cgB n d l = true) : CanP n d l := by
  unfold cgB at h
  rw [Bool.and_eq_true, decide_eq_true_eq] at h
  refine ⟨h.1, ?_⟩
  have h1 := fw_all (rd_mono h.1) (by rw [plL_len]; omega)
  rw [plL_len, show l.length + 1 + 1 - 1 = l.length + 1 by omega] at h1
  exact h1.1 ((go_iff h.1).2 h.2)
def atP9 (n d : Int) (l : List (Int × Int)) (i : Nat) : Int × Int := (plL n d l).getD i (0, 1)
def nrI (n d : Int) (l : List (Int × Int)) (i j : Nat) : Bool := nrB (atP9 n d l i) (atP9 n d l j)
theorem atP9_get {n d : Int} {l : List (Int × Int)} {i : Nat} (h : i < l.length + 2) : (plL n d l)[i]? = some (atP9 n d l i) := by
  have hl := plL_len n d l
  rw [atP9, List.getD_eq_getElem?_getD, List.getElem?_eq_getElem (by omega)]
  rfl
theorem atP9_0 (n d : Int) (l : List (Int × Int)) : atP9 n d l 0 = (0, 1) := by simp [atP9, plL]
theorem atP9_well (n d : Int) (l : List (Int × Int)) {i : Nat} (h : i < l.length) : l[i]? = some (atP9 n d l (i + 1)) := by
  have h1 := atP9_get (n := n) (d := d) (l := l) (i := i + 1) (by omega)
  rw [plL, List.getElem?_cons_succ, endL, List.getElem?_append_left h] at h1
  exact h1
theorem atP9_last (n d : Int) (l : List (Int × Int)) : atP9 n d l (l.length + 1) = (n, d) := by
  have h1 := atP9_get (n := n) (d := d) (l := l) (i := l.length + 1) (by omega)
  rw [plL, List.getElem?_cons_succ, endL, List.getElem?_append_right (Nat.le_refl _), Nat.sub_self] at h1
  simpa using h1.symm
theorem nrI_one {n d : Int} {l : List (Int × Int)} (h : CanP n d l) {i : Nat} (hi : i < l.length + 1) : nrI n d l i (i + 1) = true :=
  h.nr i _ _ (atP9_get (by omega)) (atP9_get (by omega))
theorem nrI_less {n d : Int} {l : List (Int × Int)} (h : rdB n d l = true) {i j k : Nat} (h1 : i < j) (h2 : j ≤ k) (hk : k < l.length + 2) (hn : nrI n d l i k = true) : nrI n d l i j = true := by
  have hM := rd_mono h
  have gi := atP9_get (n := n) (d := d) (l := l) (i := i) (by omega)
  have gj := atP9_get (n := n) (d := d) (l := l) (i := j) (by omega)
  have gk := atP9_get (n := n) (d := d) (l := l) (i := k) hk
  have s1 := mono_at hM (by omega : i < k) gi gk
  have s2 := mono_at hM h1 gi gj
  have a1 := am_of _ _ s1.ap
  have a2 := am_of _ _ s1.aq
  have a3 := am_of _ _ s2.aq
  refine nr_between s1 s2 (Int.le_refl _) ?_ a1.c a1.c a3.c a2.c hn
  rcases Nat.lt_or_ge j k with hjk | hjk
  · exact (mono_at hM hjk gj gk).le
  · have e : j = k := by omega
    subst e
    exact Int.le_refl _
/-- The next place of the greedy run: the last one that is near. -/
def grN (n d : Int) (l : List (Int × Int)) (i : Nat) : Nat := (lastIx (fun j => nrI n d l i j) (l.length + 2)).getD 0
theorem lastIx_is {q : Nat → Bool} : ∀ {k i : Nat}, lastIx q k = some i → i < k ∧ q i = true ∧ ∀ j, i < j → j < k → q j = false
  | 0, _, h => by cases h
  | k + 1, i, h => by
    unfold lastIx at h
    split at h
    · next hq => injection h with h; subst h; exact ⟨by omega, hq, fun j h1 h2 => by omega⟩
    · next hq =>
      have ⟨h1, h2, h3⟩ := lastIx_is h
      refine ⟨by omega, h2, fun j h4 h5 => ?_⟩
      by_cases e : j = k
      · subst e; simpa using hq
      · exact h3 j h4 (by omega)
theorem lastIx_ex {q : Nat → Bool} {i : Nat} (h : q i = true) : ∀ {k : Nat}, i < k → ∃ j, lastIx q k = some j ∧ i ≤ j
  | 0, hi => by omega
  | k + 1, hi => by
    unfold lastIx
    split
    · exact ⟨k, rfl, by omega⟩
    · next hq =>
      have : i ≠ k := fun e => hq (e ▸ h)
      obtain ⟨j, h1, h2⟩ := lastIx_ex h (by omega : i < k)
      exact ⟨j, h1, h2⟩
structure GrN (n d : Int) (l : List (Int × Int)) (i x : Nat) : Prop where
  lt : i < x
  le : x < l.length + 1
  yes : nrI n d l i x = true
  no : ∀ j, x < j → j < l.length + 2 → nrI n d l i j = false
theorem grN_is {n d : Int} {l : List (Int × Int)} (h : CanP n d l) {i : Nat} (hi : i < l.length + 1) (hn : nrI n d l i (l.length + 1) = false) : GrN n d l i (grN n d l i) := by
  obtain ⟨j, h1, h2⟩ := lastIx_ex (q := fun j => nrI n d l i j) (nrI_one h hi) (by omega : i + 1 < l.length + 2)
  have h3 := lastIx_is h1
  have e : grN n d l i = j := by simp [grN, h1]
  rw [e]
  refine ⟨by omega, ?_, h3.2.1, h3.2.2⟩
  rcases Nat.lt_or_ge j (l.length + 1) with hj | hj
  · exact hj
  · have e2 : j = l.length + 1 := by omega
    rw [e2] at h3
    rw [hn] at h3
    exact absurd h3.2.1 (by simp)
/-- The places of the greedy run from place i on. -/
def grR (n d : Int) (l : List (Int × Int)) : Nat → Nat → List Nat
  | 0, _ => []
  | f + 1, i => if nrI n d l i (l.length + 1) = true then [] else grN n d l i :: grR n d l f (grN n d l i)
structure GrRun (n d : Int) (l : List (Int × Int)) (i : Nat) (R : List Nat) : Prop where
  st : ∀ (j x : Nat), R[j]? = some x → ∃ y : Nat, (i :: R)[j]? = some y ∧ y < l.length + 1 ∧ nrI n d l y (l.length + 1) = false ∧ x = grN n d l y
  en : ∃ y : Nat, (i :: R)[R.length]? = some y ∧ y < l.length + 1 ∧ nrI n d l y (l.length + 1) = true
  len : R.length + i ≤ l.length
theorem grR_run {n d : Int} {l : List (Int × Int)} (h : CanP n d l) : ∀ (f i : Nat), i < l.length + 1 → l.length ≤ f + i → GrRun n d l i (grR n d l f i)
  | 0, i, hi, hf => by
    have e : i = l.length := by omega
    subst e
    exact ⟨fun j x hx => by simp [grR] at hx, ⟨l.length, by simp [grR], by omega, nrI_one h (by omega)⟩, by simp [grR]⟩
  | f + 1, i, hi, hf => by
    unfold grR
    split
    · next hn => exact ⟨fun j x hx => by simp at hx, ⟨i, by simp, hi, hn⟩, by simp; omega⟩
    · next hn =>
      have hn' : nrI n d l i (l.length + 1) = false := by simpa using hn
      have hg := grN_is h hi hn'
      have hlt := hg.lt
      have hr := grR_run h f (grN n d l i) hg.le (by omega)
      refine ⟨fun j x hx => ?_, ?_, ?_⟩
      · rcases j with _ | j
        · simp at hx
          exact ⟨i, rfl, hi, hn', hx.symm⟩
        · rw [List.getElem?_cons_succ] at hx
          rw [List.getElem?_cons_succ]
          exact hr.st j x hx
      · obtain ⟨y, h1, h2⟩ := hr.en
        exact ⟨y, by rw [List.length_cons, List.getElem?_cons_succ]; exact h1, h2⟩
      · have := hr.len
        rw [List.length_cons]
        omega
/-- The greedy stops. -/
def grS (n d : Int) (l : List (Int × Int)) : List Nat := grR n d l (l.length + 1) 0
def grL (n d : Int) (l : List (Int × Int)) : List Int := if cgB n d l = true then (grS n d l).map (fun (x : Nat) => (x : Int) - 1) else []
theorem grS_run {n d : Int} {l : List (Int × Int)} (h : CanP n d l) : GrRun n d l 0 (grS n d l) := grR_run h _ 0 (by omega) (by omega)
theorem grL_len (n d : Int) (l : List (Int × Int)) : (grL n d l).length ≤ 1048576 := by
  unfold grL
  split
  · next hc =>
    have h := canP_of hc
    have h1 := (grS_run h).len
    have h2 := (rdB_1 h.rd).2.1
    rw [List.length_map]
    omega
  · simp
/-- The farthest well is the next place of the run. -/
theorem far_next {n d : Int} {l : List (Int × Int)} (h : CanP n d l) {y : Nat} (hy : y < l.length + 1) (hn : nrI n d l y (l.length + 1) = false) :
    fwI l (atP9 n d l y) = (grN n d l y : Int) - 1 ∧ fwB l (atP9 n d l y) = true ∧ l[grN n d l y - 1]? = some (atP9 n d l (grN n d l y)) ∧ 1 ≤ grN n d l y := by
  have hg := grN_is h hy hn
  have h1 := hg.lt
  have h2 := hg.le
  have h3 := hg.yes
  obtain ⟨x, hx⟩ : ∃ x, grN n d l y = x := ⟨_, rfl⟩
  have hno := hg.no
  rw [hx] at h1 h2 h3 hno ⊢
  have hwl : ∀ i, i < l.length → l.getD i (0, 0) = atP9 n d l (i + 1) := fun i hi => by
    rw [List.getD_eq_getElem?_getD, atP9_well n d l hi]
    rfl
  have hfw : fwW l (atP9 n d l y) = some (x - 1) := by
    refine lastIx_some ?_ (by omega) (fun j hj hj2 => ?_)
    · show nrB _ (l.getD (x - 1) (0, 0)) = true
      rw [hwl _ (by omega), show x - 1 + 1 = x by omega]
      exact h3
    · show nrB _ (l.getD j (0, 0)) = false
      rw [hwl _ hj2]
      exact hno (j + 1) (by omega) (by omega)
  have hne : atP9 n d l x ≠ atP9 n d l y := by
    intro e
    have hlt := rd_lt h.rd (by omega) (x - y - 1) y _ _ (atP9_get (by omega)) (by rw [show y + (x - y - 1) + 1 = x by omega]; exact atP9_get (by omega))
    rw [e] at hlt
    omega
  refine ⟨?_, ?_, ?_, by omega⟩
  · simp only [fwI, hfw]; omega
  · simp only [fwB, hfw, hwl _ (by omega : x - 1 < l.length), show x - 1 + 1 = x by omega]
    simpa using hne
  · have := atP9_well n d l (by omega : x - 1 < l.length)
    rw [show x - 1 + 1 = x by omega] at this
    exact this
end Go.Proofs.Ytngoibohkckgpaa

/- Answers that are a list and a bool, told from an earlier world on. -/
namespace Go.Proofs.Ytngoibohkckgpaa
open Go.ChangeShapes Go.WideShapes Go.ChangeAt Go.RowKit Go.Joins
set_option linter.unusedVariables false

theorem ends_at {α : Type} {f : FuncId} {args : Array Value} {ty m : Nat} {F : α → List Int} {l : List α} {b : Bool} {B W : World} (hB : Below B.heap.size B W) (h : Calls Try.prog f args W (EndG ty m F l b W)) :
    Calls Try.prog f args W fun e w' => ∃ g c, e = .returned (.tuple #[.slice (some ⟨g, 0, none⟩) l.length c, .bool b]) ∧ w'.ownsRow B.heap.size ty m (.slice (some ⟨g, 0, none⟩) l.length c) l.length (cellsG F l) ∧ Below B.heap.size B w' := by
  refine h.mono ?_
  rintro e w' ⟨g, c, rfl, hown, hb⟩
  exact ⟨g, c, rfl, own_mono hown hB.size, bstep hB hb⟩
theorem endn_at {f : FuncId} {args : Array Value} {b : Bool} {B W : World} (hB : Below B.heap.size B W) (h : Calls Try.prog f args W (EndN b W)) :
    Calls Try.prog f args W fun e w' => ∃ a c, e = .returned (.tuple #[.slice a 0 c, .bool b]) ∧ Below B.heap.size B w' := by
  refine h.mono ?_
  rintro e w' ⟨a, c, rfl, hb⟩
  exact ⟨a, c, rfl, bstep hB hb⟩
end Go.Proofs.Ytngoibohkckgpaa

/- Going as far as possible, and the greedy stops, of the program. -/
namespace Go.Proofs.Ytngoibohkckgpaa
open Go.ChangeShapes Go.WideShapes Go.ChangeAt Go.RowKit Go.Joins
set_option maxRecDepth 100000
set_option linter.unusedVariables false
set_option linter.unusedSimpArgs false


def gfS (n d most : Int) (p : Int × Int) (j : Nat) : Bool := decide ((j : Int) = most) || nrB p (n, d)
def gfI (n d most : Int) (l : List (Int × Int)) (p : Int × Int) (j : Nat) : Int := if gfS n d most p j = true then 0 else fwI l p
def gfB (n d most : Int) (l : List (Int × Int)) (p : Int × Int) (j : Nat) : Bool := if gfS n d most p j = true then false else fwB l p
set_option maxHeartbeats 3200000 in
theorem far1_impl (n d most : Int) (v : Value) (l : List (Int × Int)) (p : Int × Int) (j : Nat) (hp : amB p.1 p.2 = true) (hw : amB n d = true) (hP : ∀ q ∈ l, amB q.1 q.2 = true) (hln : l.length ≤ 1000000) (g1 g2 : Nat) (w : World) (h : RowG 2 fAmt w v l) (c : w.cell? ⟨g1, 0, none⟩ = some (.int .i64 most)) (r : RdAt g2 n d v w) :
    Calls Try.prog 64 #[.agg #[.int .i64 p.1, .int .i64 p.2], .int .i64 (j : Int), .pointer (some ⟨g1, 0, none⟩), .pointer (some ⟨g2, 0, none⟩)] w fun e w' => e = .returned (.tuple #[.int .i64 (gfI n d most l p j), .bool (gfB n d most l p j)]) ∧ Below w.heap.size w w' := by
  have HN := Lib.hid (fun W => near_impl p (n, d) hp hw W)
  have HF := Lib.hid (fun W (hB : Below w.heap.size w W) => farW_impl n d v l p hp hP hln W (rowG_below h hB))
  obtain ⟨av, cv, rfl, hl1, hl2⟩ := row_shape h
  have hg1 : g1 < w.heap.size := cell_lt c
  obtain ⟨r0, r1, r2, rz⟩ := id r
  by_cases hj : (j : Int) = most
  · have e1 : gfI n d most l p j = 0 := by simp [gfI, gfS, hj]
    have e2 : gfB n d most l p j = false := by simp [gfB, gfS, hj]
    rw [e1, e2]
    clear e1 e2 h hP
    subst hj
    go_enter Try.func64, Try.ntmps64
    go_wp2_with fail
    refine bodyPost_ret (v := .tuple #[.int .i64 0, .bool false]) (by simp only [results, Try.results64]; go_simp) rfl ?_
    exact ⟨rfl, by (repeat (first | with_reducible exact Below.refl _ _ | with_reducible assumption | with_reducible refine balloc ?_ _ | with_reducible refine bdrew ?_ | with_reducible refine below_drewN ?_ _ | with_reducible refine bset ?_ ?_ _ | with_reducible exact Nat.le_refl _ | with_reducible refine bsize ?_ | (dsimp only; refine Nat.le_trans ?_ (Nat.le_add_right _ _)) | with_reducible refine Nat.le_trans ?_ (Nat.le_add_right _ _) | (with_reducible refine bstep ?_ (by assumption))))⟩
  · have hjb : ((j : Int) == most) = false := by simpa using hj
    cases hn : nrB p (n, d)
    · have e1 : gfI n d most l p j = fwI l p := by simp [gfI, gfS, hj, hn]
      have e2 : gfB n d most l p j = fwB l p := by simp [gfB, gfS, hj, hn]
      rw [e1, e2]
      rw [hn] at HN
      clear e1 e2 h hP hj hn
      generalize fwI l p = FI at *
      generalize fwB l p = FB at *
      go_enter Try.func64, Try.ntmps64
      go_wp2_with fail
      refine (HN.out _).mono ?_
      rintro e w1 ⟨rfl, hb1⟩
      have f1 : Below w.heap.size w w1 := by (repeat (first | with_reducible exact Below.refl _ _ | with_reducible assumption | with_reducible refine balloc ?_ _ | with_reducible refine bdrew ?_ | with_reducible refine below_drewN ?_ _ | with_reducible refine bset ?_ ?_ _ | with_reducible exact Nat.le_refl _ | with_reducible refine bsize ?_ | (dsimp only; refine Nat.le_trans ?_ (Nat.le_add_right _ _)) | with_reducible refine Nat.le_trans ?_ (Nat.le_add_right _ _) | (with_reducible refine bstep ?_ (by assumption))))
      obtain ⟨kc1, kf1, kz1, ky1, kx1, kv1, ku1⟩ := bcell hb1
      have r3 := r.later f1
      obtain ⟨r0', r1', r2', rz'⟩ := id r3
      have q1_h_0 : w1.cell? ⟨w.heap.size, 0, none⟩ = some (.int .i64 p.1) := by rw [kc1 _ _ (by first | assumption | (simp; done) | (simp; omega) | omega)]; simp [go_sem]
      have r1_h_0 : w1.frozen? ⟨w.heap.size, 0, none⟩ = false := by rw [kf1 _ _ (by first | assumption | (simp; done) | (simp; omega) | omega)]; simp [go_sem]
      have q1_h_1 : w1.cell? ⟨w.heap.size, 1, none⟩ = some (.int .i64 p.2) := by rw [kc1 _ _ (by first | assumption | (simp; done) | (simp; omega) | omega)]; simp [go_sem]
      have r1_h_1 : w1.frozen? ⟨w.heap.size, 1, none⟩ = false := by rw [kf1 _ _ (by first | assumption | (simp; done) | (simp; omega) | omega)]; simp [go_sem]
      have z1_h : w.heap.size < w1.heap.size := kz1 _ (by first | assumption | (simp; done) | (simp; omega) | omega)
      clear kc1 kf1 kz1 ky1 kx1 kv1 ku1 hb1
      go_wp2_with fail
      refine (HF.out _ f1).mono ?_
      rintro e w2 ⟨rfl, hb2⟩
      go_wp2
      refine bodyPost_ret (v := .tuple #[.int .i64 FI, .bool FB]) (by simp only [results, Try.results64]; go_simp) rfl ?_
      exact ⟨rfl, bstep f1 hb2⟩
    · have e1 : gfI n d most l p j = 0 := by simp [gfI, gfS, hn]
      have e2 : gfB n d most l p j = false := by simp [gfB, gfS, hn]
      rw [e1, e2]
      rw [hn] at HN
      clear e1 e2 h hP hj hn
      go_enter Try.func64, Try.ntmps64
      go_wp2_with fail
      refine (HN.out _).mono ?_
      rintro e w1 ⟨rfl, hb1⟩
      have f1 : Below w.heap.size w w1 := by (repeat (first | with_reducible exact Below.refl _ _ | with_reducible assumption | with_reducible refine balloc ?_ _ | with_reducible refine bdrew ?_ | with_reducible refine below_drewN ?_ _ | with_reducible refine bset ?_ ?_ _ | with_reducible exact Nat.le_refl _ | with_reducible refine bsize ?_ | (dsimp only; refine Nat.le_trans ?_ (Nat.le_add_right _ _)) | with_reducible refine Nat.le_trans ?_ (Nat.le_add_right _ _) | (with_reducible refine bstep ?_ (by assumption))))
      go_wp2
      refine bodyPost_ret (v := .tuple #[.int .i64 0, .bool false]) (by simp only [results, Try.results64]; go_simp) rfl ?_
      exact ⟨rfl, f1⟩
set_option maxHeartbeats 1600000 in
theorem goFar_impl (n d most : Int) (v : Value) (l : List (Int × Int)) (hw : amB n d = true) (hP : ∀ q ∈ l, amB q.1 q.2 = true) (ws : List Int) (hs : Nat → Int × Int) (ha : ∀ j, j ≤ ws.length → amB (hs j).1 (hs j).2 = true)
    (hg : Goes l ws hs (fun j => gfI n d most l (hs j) j) (fun j => gfB n d most l (hs j) j)) (w : World) (h : RowG 2 fAmt w v l) :
    Calls Try.prog 38 #[.agg #[.int .i64 n, .int .i64 d, v], .int .i64 most] w fun e w' => ∃ s, e = .returned (.tuple #[s, .agg #[.int .i64 (hs ws.length).1, .int .i64 (hs ws.length).2]]) ∧ w'.ownsRow w.heap.size 3 1 s ws.length (cellsG fInt ws) ∧ Below w.heap.size w w' := by
  have hmf : ∀ (fn : Fn) (first cap : Array Value) (w : World), (Instr.makeFunc fn first cap).run Try.prog w = .ok (.func fn first cap) w := fun _ _ _ _ => rfl
  have HGO := Lib.hid (fun (W : World) (hB : Below w.heap.size w W) (g1 g2 : Nat) (c : W.cell? ⟨g1, 0, none⟩ = some (.int .i64 most)) (r : RdAt g2 n d v W) =>
    goOn_far n d v l ws hs _ _ hg g1 g2 W (rowG_below h hB) (fun j W2 hj hB2 => far1_impl n d most v l (hs j) j (ha j hj) hw hP hg.ll g1 g2 W2 (rowG_below (rowG_below h hB) hB2) (keepa hB2 (cell_lt c) c) (r.later hB2)))
  obtain ⟨av, cv, rfl, hl1, hl2⟩ := row_shape h
  clear h hg ha hP
  generalize (hs ws.length) = q at *
  go_enter Try.func38, Try.ntmps38
  go_wp2_with fail
  refine (HGO.out _ (by (repeat (first | with_reducible exact Below.refl _ _ | with_reducible assumption | with_reducible refine balloc ?_ _ | with_reducible refine bdrew ?_ | with_reducible refine below_drewN ?_ _ | with_reducible refine bset ?_ ?_ _ | with_reducible exact Nat.le_refl _ | with_reducible refine bsize ?_ | (dsimp only; refine Nat.le_trans ?_ (Nat.le_add_right _ _)) | with_reducible refine Nat.le_trans ?_ (Nat.le_add_right _ _) | (with_reducible refine bstep ?_ (by assumption))))) (w.heap.size + 1) w.heap.size (by simp [go_sem]) (((RdAt.new w n d _ _).alloc _).alloc _)).mono ?_
  rintro e w1 ⟨s, rfl, hown, hb1⟩
  obtain ⟨sa, sc, rfl⟩ := owns_shape hown
  have f1 : Below w.heap.size w w1 := by (repeat (first | with_reducible exact Below.refl _ _ | with_reducible assumption | with_reducible refine balloc ?_ _ | with_reducible refine bdrew ?_ | with_reducible refine below_drewN ?_ _ | with_reducible refine bset ?_ ?_ _ | with_reducible exact Nat.le_refl _ | with_reducible refine bsize ?_ | (dsimp only; refine Nat.le_trans ?_ (Nat.le_add_right _ _)) | with_reducible refine Nat.le_trans ?_ (Nat.le_add_right _ _) | (with_reducible refine bstep ?_ (by assumption))))
  have hr := Res9.later (by have h := Res9.new ((w.alloc (.cells #[.int .i64 n, .int .i64 d, .slice av l.length cv] 34)).alloc (.cells #[.int .i64 most] 3)) (.int .i64 0) (.int .i64 0) 31; simp only [World.size_alloc] at h; exact h) hb1
  obtain ⟨rx, ry, r0, r1, rz0, rz1, rz⟩ := hr
  go_wp2
  refine bodyPost_ret (v := .tuple #[.slice sa ws.length sc, .agg #[.int .i64 q.1, .int .i64 q.2]]) (by simp only [results, Try.results38]; go_simp) rfl ?_
  exact ⟨_, rfl, own_set (own_set (own_mono hown (by first | (simp; done) | (simp; omega))) (own_ne hown (b := w.heap.size + 1 + 1) (by first | (simp; done) | (simp; omega))) _) (own_ne hown (b := w.heap.size + 1 + 1) (by first | (simp; done) | (simp; omega))) _, by (repeat (first | with_reducible exact Below.refl _ _ | with_reducible assumption | with_reducible refine balloc ?_ _ | with_reducible refine bdrew ?_ | with_reducible refine below_drewN ?_ _ | with_reducible refine bset ?_ ?_ _ | with_reducible exact Nat.le_refl _ | with_reducible refine bsize ?_ | (dsimp only; refine Nat.le_trans ?_ (Nat.le_add_right _ _)) | with_reducible refine Nat.le_trans ?_ (Nat.le_add_right _ _) | (with_reducible refine bstep ?_ (by assumption))))⟩
def grW (n d : Int) (l : List (Int × Int)) : List Int := (grS n d l).map (fun (x : Nat) => (x : Int) - 1)
def grH (n d : Int) (l : List (Int × Int)) (j : Nat) : Int × Int := atP9 n d l ((0 :: grS n d l).getD j 0)
theorem grH_am {n d : Int} {l : List (Int × Int)} (h : CanP n d l) (j : Nat) (hj : j ≤ (grW n d l).length) : amB (grH n d l j).1 (grH n d l j).2 = true := by
  have hR := grS_run h
  rw [grW, List.length_map] at hj
  have hlt : (0 :: grS n d l).getD j 0 < l.length + 2 := by
    rcases j with _ | j
    · simp
    · obtain ⟨x, hx⟩ : ∃ x, (grS n d l)[j]? = some x := ⟨_, List.getElem?_eq_getElem (by omega)⟩
      obtain ⟨y, _, hy, hn, e⟩ := hR.st j x hx
      have := (grN_is h hy hn).le
      have e2 : (0 :: grS n d l).getD (j + 1) 0 = x := by rw [List.getD_eq_getElem?_getD, List.getElem?_cons_succ, hx]; rfl
      omega
  exact (mono_am (rd_mono h.rd) (atP9_get hlt) (by rw [plL_len]; omega)).1
theorem gr_goes {n d : Int} {l : List (Int × Int)} (h : CanP n d l) : Goes l (grW n d l) (grH n d l) (fun j => gfI n d 16 l (grH n d l j) j) (fun j => gfB n d 16 l (grH n d l j) j) := by
  have hR := grS_run h
  have hl := hR.len
  have h16 := (rdB_1 h.rd).2.1
  have hat : ∀ (j y : Nat), (0 :: grS n d l)[j]? = some y → grH n d l j = atP9 n d l y := fun j y hy => by
    rw [grH, List.getD_eq_getElem?_getD, hy]
    rfl
  refine ⟨by simp [grH, atP9_0], fun j x hx => ?_, ?_, by rw [grW, List.length_map]; omega, by omega⟩
  · rw [grW, List.getElem?_map] at hx
    obtain ⟨X, hX, rfl⟩ := Option.map_eq_some_iff.1 hx
    obtain ⟨y, hy0, hy, hn, hxe⟩ := hR.st j X hX
    have hjl := (List.getElem?_eq_some_iff.1 hX).1
    obtain ⟨f1, f2, f3, f4⟩ := far_next h hy hn
    rw [← hxe] at f1 f3 f4
    have hS : gfS n d 16 (atP9 n d l y) j = false := by
      have e : nrB (atP9 n d l y) (n, d) = false := by rw [← atP9_last n d l]; exact hn
      simp [gfS, e]
      omega
    have hX1 : (0 :: grS n d l)[j + 1]? = some X := by rw [List.getElem?_cons_succ]; exact hX
    refine ⟨?_, ?_, X - 1, by omega, ?_⟩
    · show gfB n d 16 l (grH n d l j) j = true
      rw [hat j y hy0, gfB, hS, if_neg (by simp)]
      exact f2
    · show gfI n d 16 l (grH n d l j) j = _
      rw [hat j y hy0, gfI, hS, if_neg (by simp)]
      exact f1
    · rw [hat (j + 1) X hX1]
      exact f3
  · obtain ⟨y, hy0, hy, hn⟩ := hR.en
    have hlen : (grW n d l).length = (grS n d l).length := by rw [grW, List.length_map]
    rw [hlen, hat _ y hy0, gfB]
    have hS : gfS n d 16 (atP9 n d l y) (grS n d l).length = true := by
      have e : nrB (atP9 n d l y) (n, d) = true := by rw [← atP9_last n d l]; exact hn
      simp [gfS, e]
    rw [if_pos hS]
set_option maxHeartbeats 3200000 in
theorem greedy_impl (n d : Int) (bn : (-9223372036854775808 ≤ n ∧ n ≤ 9223372036854775807)) (bd : (-9223372036854775808 ≤ d ∧ d ≤ 9223372036854775807)) (v : Value) (l : List (Int × Int)) (w : World) (h : RowG 2 fAmt w v l) :
    Calls Try.prog 12 #[.agg #[.int .i64 n, .int .i64 d, v]] w (AnsG 3 1 fInt (grL n d l) (cgB n d l) w) := by
  have HC := Lib.hid (fun (W : World) (hB : Below w.heap.size w W) => canGo_impl n d bn bd v l W (rowG_below h hB))
  cases hc : cgB n d l
  · have e : grL n d l = [] := by simp [grL, hc]
    rw [e]
    rw [hc] at HC
    obtain ⟨av, cv, rfl, hl1, hl2⟩ := row_shape h
    clear h e hc
    generalize rdB n d l = rb at *
    go_enter Try.func12, Try.ntmps12
    go_wp2_with fail
    refine (HC.out _ (by (repeat (first | with_reducible exact Below.refl _ _ | with_reducible assumption | with_reducible refine balloc ?_ _ | with_reducible refine bdrew ?_ | with_reducible refine below_drewN ?_ _ | with_reducible refine bset ?_ ?_ _ | with_reducible exact Nat.le_refl _ | with_reducible refine bsize ?_ | (dsimp only; refine Nat.le_trans ?_ (Nat.le_add_right _ _)) | with_reducible refine Nat.le_trans ?_ (Nat.le_add_right _ _) | (with_reducible refine bstep ?_ (by assumption)))))).mono ?_
    rintro e w1 ⟨rfl, hb1⟩
    go_wp2
    refine bodyPost_ret (v := .tuple #[.slice none 0 0, .bool false]) (by simp only [results, Try.results12]; go_simp) rfl ?_
    exact ans_owns rfl ⟨rfl, Or.inl ⟨rfl, rfl⟩⟩ (by (repeat (first | with_reducible exact Below.refl _ _ | with_reducible assumption | with_reducible refine balloc ?_ _ | with_reducible refine bdrew ?_ | with_reducible refine below_drewN ?_ _ | with_reducible refine bset ?_ ?_ _ | with_reducible exact Nat.le_refl _ | with_reducible refine bsize ?_ | (dsimp only; refine Nat.le_trans ?_ (Nat.le_add_right _ _)) | with_reducible refine Nat.le_trans ?_ (Nat.le_add_right _ _) | (with_reducible refine bstep ?_ (by assumption)))))
  · have hcan := canP_of hc
    have e : grL n d l = grW n d l := by simp [grL, grW, hc]
    rw [e]
    rw [hc] at HC
    have hAm := plL_am hcan.rd
    have hw : amB n d = true := rp_am (rdB_1 hcan.rd).1
    have hP : ∀ q ∈ l, amB q.1 q.2 = true := fun q hq => rp_am ((rdB_1 hcan.rd).2.2 q hq)
    have HG := Lib.hid (fun (W : World) (hB : Below w.heap.size w W) => goFar_impl n d 16 v l hw hP (grW n d l) (grH n d l) (grH_am hcan) (gr_goes hcan) W (rowG_below h hB))
    obtain ⟨av, cv, rfl, hl1, hl2⟩ := row_shape h
    clear h e hc hcan hAm hP
    generalize rdB n d l = rb at *
    generalize grH n d l (grW n d l).length = q at *
    generalize grW n d l = ws at *
    go_enter Try.func12, Try.ntmps12
    go_wp2_with fail
    refine (HC.out _ (by (repeat (first | with_reducible exact Below.refl _ _ | with_reducible assumption | with_reducible refine balloc ?_ _ | with_reducible refine bdrew ?_ | with_reducible refine below_drewN ?_ _ | with_reducible refine bset ?_ ?_ _ | with_reducible exact Nat.le_refl _ | with_reducible refine bsize ?_ | (dsimp only; refine Nat.le_trans ?_ (Nat.le_add_right _ _)) | with_reducible refine Nat.le_trans ?_ (Nat.le_add_right _ _) | (with_reducible refine bstep ?_ (by assumption)))))).mono ?_
    rintro e w1 ⟨rfl, hb1⟩
    have f1 : Below w.heap.size w w1 := by (repeat (first | with_reducible exact Below.refl _ _ | with_reducible assumption | with_reducible refine balloc ?_ _ | with_reducible refine bdrew ?_ | with_reducible refine below_drewN ?_ _ | with_reducible refine bset ?_ ?_ _ | with_reducible exact Nat.le_refl _ | with_reducible refine bsize ?_ | (dsimp only; refine Nat.le_trans ?_ (Nat.le_add_right _ _)) | with_reducible refine Nat.le_trans ?_ (Nat.le_add_right _ _) | (with_reducible refine bstep ?_ (by assumption))))
    obtain ⟨r0, r1, r2, rz⟩ := (RdAt.new w n d (.slice av l.length cv) 34).later hb1
    go_wp2_with fail
    refine (HG.out _ f1).mono ?_
    rintro e w2 ⟨s, rfl, hown, hb2⟩
    obtain ⟨sa, sc, rfl⟩ := owns_shape hown
    have f2 : Below w.heap.size w w2 := bstep f1 hb2
    go_wp2
    refine bodyPost_ret (v := .tuple #[.slice sa ws.length sc, .bool true]) (by simp only [results, Try.results12]; go_simp) rfl ?_
    exact ans_owns rfl (own_mono (own_alloc hown _) f1.size) (by (repeat (first | with_reducible exact Below.refl _ _ | with_reducible assumption | with_reducible refine balloc ?_ _ | with_reducible refine bdrew ?_ | with_reducible refine below_drewN ?_ _ | with_reducible refine bset ?_ ?_ _ | with_reducible exact Nat.le_refl _ | with_reducible refine bsize ?_ | (dsimp only; refine Nat.le_trans ?_ (Nat.le_add_right _ _)) | with_reducible refine Nat.le_trans ?_ (Nat.le_add_right _ _) | (with_reducible refine bstep ?_ (by assumption)))))
end Go.Proofs.Ytngoibohkckgpaa

/- Roads: the farthest place with so many stops (plain). -/
namespace Go.Proofs.Ytngoibohkckgpaa
open Go.ChangeShapes Go.WideShapes Go.ChangeAt Go.RowKit Go.Joins
set_option maxRecDepth 100000
set_option linter.unusedVariables false
set_option linter.unusedSimpArgs false

theorem fwC_le {P : List (Int × Int)} {few : List Int} {i : Nat} : ∀ {k j : Nat}, j < k → 0 ≤ few.getD j 0 → nrB (P.getD j (0, 1)) (P.getD i (0, 1)) = true → fwC P few i k ≤ few.getD j 0 + (if 0 < j then 1 else 0)
  | 0, _, h, _, _ => by omega
  | k + 1, j, h, h1, h2 => by
    rw [fwC_succ]
    unfold fwStep
    by_cases hjk : j = k
    · subst hjk
      rw [if_neg (by intro hc; rcases hc with hc | hc; · omega
                     · rw [h2] at hc; cases hc)]
      split <;> omega
    · have h3 := fwC_le (few := few) (P := P) (i := i) (k := k) (j := j) (by omega) h1 h2
      have h4 : 0 ≤ fwC P few i k := fwC_ge.2 ⟨j, by omega, h1, h2⟩
      split
      · exact h3
      · split <;> omega
theorem fwC_ex {P : List (Int × Int)} {few : List Int} {i : Nat} : ∀ {k : Nat}, 0 ≤ fwC P few i k → ∃ j < k, 0 ≤ few.getD j 0 ∧ nrB (P.getD j (0, 1)) (P.getD i (0, 1)) = true ∧ fwC P few i k = few.getD j 0 + (if 0 < j then 1 else 0)
  | 0, h => by simp [fwC] at h
  | k + 1, h => by
    rw [fwC_succ] at h ⊢
    unfold fwStep at h ⊢
    by_cases hn : few.getD k 0 < 0 ∨ nrB (P.getD k (0, 1)) (P.getD i (0, 1)) = false
    · rw [if_pos hn] at h ⊢
      obtain ⟨j, hj, hr⟩ := fwC_ex h
      exact ⟨j, by omega, hr⟩
    · rw [if_neg hn] at h ⊢
      by_cases hc : fwC P few i k < 0 ∨ few.getD k 0 + (if 0 < k then 1 else 0) < fwC P few i k
      · rw [if_pos hc]
        refine ⟨k, by omega, Int.not_lt.1 (fun hh => hn (Or.inl hh)), ?_, rfl⟩
        cases hh : nrB (P.getD k (0, 1)) (P.getD i (0, 1))
        · exact absurd (Or.inr hh) hn
        · rfl
      · rw [if_neg hc] at h ⊢
        obtain ⟨j, hj, hr⟩ := fwC_ex h
        exact ⟨j, by omega, hr⟩
/-- How many stops it takes to go on from a place. -/
def ndN (P : List (Int × Int)) (i : Nat) : Int := fw P i + (if 0 < i then 1 else 0)
theorem fw_le {P : List (Int × Int)} {i j : Nat} (hj : j < i) (h1 : 0 ≤ fw P j) (h2 : nrB (P.getD j (0, 1)) (P.getD i (0, 1)) = true) : fw P i ≤ ndN P j := by
  have h := fwC_le (few := fwF P i) hj (by rw [fwF_fw hj]; exact h1) h2
  rw [fwF_fw hj] at h
  unfold ndN
  rw [fw, fwV, if_neg (by omega)]
  exact h
theorem fw_ex {P : List (Int × Int)} {i : Nat} (h0 : 0 < i) (h : 0 ≤ fw P i) : ∃ j < i, 0 ≤ fw P j ∧ nrB (P.getD j (0, 1)) (P.getD i (0, 1)) = true ∧ fw P i = ndN P j := by
  rw [fw, fwV, if_neg (by omega)] at h
  obtain ⟨j, hj, h1, h2, h3⟩ := fwC_ex h
  rw [fwF_fw hj] at h1 h3
  refine ⟨j, hj, h1, h2, ?_⟩
  rw [fw, fwV, if_neg (by omega), h3, ndN]
theorem nrI_more {n d : Int} {l : List (Int × Int)} (h : rdB n d l = true) {j y i : Nat} (h1 : j ≤ y) (h2 : y < i) (hi : i < l.length + 2) (hn : nrI n d l j i = true) : nrI n d l y i = true := by
  have hM := rd_mono h
  have gj := atP9_get (n := n) (d := d) (l := l) (i := j) (by omega)
  have gy := atP9_get (n := n) (d := d) (l := l) (i := y) (by omega)
  have gi' := atP9_get (n := n) (d := d) (l := l) (i := i) hi
  have s1 := mono_at hM (by omega : j < i) gj gi'
  have s2 := mono_at hM h2 gy gi'
  have a1 := am_of _ _ s1.ap
  have a2 := am_of _ _ s1.aq
  have a3 := am_of _ _ s2.ap
  refine nr_between s1 s2 ?_ (Int.le_refl _) a1.c a3.c a2.c a2.c hn
  rcases Nat.lt_or_ge j y with hjk | hjk
  · exact (mono_at hM hjk gj gy).le
  · have e : j = y := by omega
    subst e
    exact Int.le_refl _
theorem rp9 {n d : Int} {l : List (Int × Int)} (h : rdB n d l = true) {i : Nat} (hi : i < l.length + 2) : rpB (atP9 n d l i).1 (atP9 n d l i).2 = true := by
  rcases i with _ | i
  · rw [atP9_0]; decide
  · rcases Nat.lt_or_ge i l.length with hl | hl
    · have := atP9_well n d l hl
      exact (rdB_1 h).2.2 _ (List.mem_of_getElem? this)
    · have e : i = l.length := by omega
      subst e
      rw [atP9_last]
      exact (rdB_1 h).1
theorem nrI_self {n d : Int} {l : List (Int × Int)} (h : rdB n d l = true) {i : Nat} (hi : i < l.length + 2) : nrI n d l i i = true := by
  have hr := rp9 h hi
  have ha := rp_am hr
  unfold rpB at hr
  rw [Bool.and_eq_true, decide_eq_true_eq] at hr
  have hA := am_of _ _ ha
  have hS : StOK (atP9 n d l i) (atP9 n d l i) := ⟨ha, ha, hr.2.1, hr.2.1, hr.2.2, Int.le_refl _⟩
  unfold nrI
  rw [nr_iff hS, Int.sub_self]
  exact Int.mul_nonneg (by have := hA.c; omega) (by have := hA.c; omega)
structure GrX (n d : Int) (l : List (Int × Int)) (i x : Nat) : Prop where
  le0 : i ≤ x
  le : x < l.length + 1
  yes : nrI n d l i x = true
  no : ∀ j, x < j → j < l.length + 2 → nrI n d l i j = false
theorem grN_gen {n d : Int} {l : List (Int × Int)} (h : rdB n d l = true) {i : Nat} (hi : i < l.length + 1) (hn : nrI n d l i (l.length + 1) = false) : GrX n d l i (grN n d l i) := by
  obtain ⟨j, h1, h2⟩ := lastIx_ex (q := fun j => nrI n d l i j) (nrI_self h (by omega)) (by omega : i < l.length + 2)
  have h3 := lastIx_is h1
  have e : grN n d l i = j := by simp [grN, h1]
  rw [e]
  refine ⟨h2, ?_, h3.2.1, h3.2.2⟩
  rcases Nat.lt_or_ge j (l.length + 1) with hj | hj
  · exact hj
  · have e2 : j = l.length + 1 := by omega
    rw [e2] at h3
    rw [hn] at h3
    exact absurd h3.2.1 (by simp)
/-- The farthest well: the next place of the run, or none. -/
theorem far_next2 {n d : Int} {l : List (Int × Int)} (h : rdB n d l = true) {y : Nat} (hy : y < l.length + 1) (hn : nrI n d l y (l.length + 1) = false) :
    (y < grN n d l y → fwI l (atP9 n d l y) = (grN n d l y : Int) - 1 ∧ fwB l (atP9 n d l y) = true ∧ l[grN n d l y - 1]? = some (atP9 n d l (grN n d l y)) ∧ 1 ≤ grN n d l y) ∧ (grN n d l y = y → fwB l (atP9 n d l y) = false) := by
  have hg := grN_gen h hy hn
  have h1 := hg.le0
  have h2 := hg.le
  have h3 := hg.yes
  obtain ⟨x, hx⟩ : ∃ x, grN n d l y = x := ⟨_, rfl⟩
  have hno := hg.no
  rw [hx] at h1 h2 h3 hno ⊢
  have hwl : ∀ i, i < l.length → l.getD i (0, 0) = atP9 n d l (i + 1) := fun i hi => by
    rw [List.getD_eq_getElem?_getD, atP9_well n d l hi]
    rfl
  have hfw : 1 ≤ x → fwW l (atP9 n d l y) = some (x - 1) := fun hx1 => by
    refine lastIx_some ?_ (by omega) (fun j hj hj2 => ?_)
    · show nrB _ (l.getD (x - 1) (0, 0)) = true
      rw [hwl _ (by omega), show x - 1 + 1 = x by omega]
      exact h3
    · show nrB _ (l.getD j (0, 0)) = false
      rw [hwl _ hj2]
      exact hno (j + 1) (by omega) (by omega)
  refine ⟨fun hlt0 => ?_, fun e => ?_⟩
  · have hne : atP9 n d l x ≠ atP9 n d l y := by
      intro e
      have hlt := rd_lt h (by omega) (x - y - 1) y _ _ (atP9_get (by omega)) (by rw [show y + (x - y - 1) + 1 = x by omega]; exact atP9_get (by omega))
      rw [e] at hlt
      omega
    refine ⟨?_, ?_, ?_, by omega⟩
    · simp only [fwI, hfw (by omega)]; omega
    · simp only [fwB, hfw (by omega), hwl _ (by omega : x - 1 < l.length), show x - 1 + 1 = x by omega]
      simpa using hne
    · have := atP9_well n d l (by omega : x - 1 < l.length)
      rw [show x - 1 + 1 = x by omega] at this
      exact this
  · subst e
    rcases x with _ | x
    · have hfn : fwW l (atP9 n d l 0) = none := lastIx_none (fun j hj => by
        show nrB _ (l.getD j (0, 0)) = false
        rw [hwl _ hj]
        exact hno (j + 1) (by omega) (by omega))
      simp only [fwB, hfn]
    · have e2 := hwl x (by omega)
      simp only [fwB, hfw (by omega), Nat.add_sub_cancel]
      rw [e2]
      simp
/-- The run with so many stops at most. -/
def rcR (n d : Int) (l : List (Int × Int)) : Nat → Nat → List Nat
  | 0, _ => []
  | f + 1, i => if nrI n d l i (l.length + 1) = true ∨ grN n d l i = i then [] else grN n d l i :: rcR n d l f (grN n d l i)
structure RcRun (n d : Int) (l : List (Int × Int)) (s i : Nat) (R : List Nat) : Prop where
  st : ∀ (j x : Nat), R[j]? = some x → ∃ y : Nat, (i :: R)[j]? = some y ∧ y < l.length + 1 ∧ nrI n d l y (l.length + 1) = false ∧ x = grN n d l y ∧ y < x
  en : ∃ y : Nat, (i :: R)[R.length]? = some y ∧ y < l.length + 1 ∧ (nrI n d l y (l.length + 1) = true ∨ (nrI n d l y (l.length + 1) = false ∧ (R.length = s ∨ grN n d l y = y)))
  len : R.length ≤ s
  len2 : R.length + i ≤ l.length
theorem rcR_run {n d : Int} {l : List (Int × Int)} (h : rdB n d l = true) : ∀ (f i : Nat), i < l.length + 1 → RcRun n d l f i (rcR n d l f i)
  | 0, i, hi => by
    refine ⟨fun j x hx => by simp [rcR] at hx, ⟨i, by simp [rcR], by omega, ?_⟩, by simp [rcR], by simp [rcR]; omega⟩
    cases hn : nrI n d l i (l.length + 1)
    · exact Or.inr ⟨rfl, Or.inl rfl⟩
    · exact Or.inl rfl
  | f + 1, i, hi => by
    unfold rcR
    split
    · next hn =>
      refine ⟨fun j x hx => by simp at hx, ⟨i, by simp, hi, ?_⟩, by simp, by simp; omega⟩
      cases hn1 : nrI n d l i (l.length + 1)
      · rcases hn with hn | hn
        · rw [hn1] at hn; cases hn
        · exact Or.inr ⟨rfl, Or.inr hn⟩
      · exact Or.inl rfl
    · next hn =>
      have hn' : nrI n d l i (l.length + 1) = false := by
        cases hh : nrI n d l i (l.length + 1)
        · rfl
        · exact absurd (Or.inl hh) hn
      have hn2 : ¬ grN n d l i = i := fun hh => hn (Or.inr hh)
      have hg := grN_gen h hi hn'
      have hlt := hg.le0
      have hr := rcR_run h f (grN n d l i) hg.le
      refine ⟨fun j x hx => ?_, ?_, by have := hr.len; rw [List.length_cons]; omega, ?_⟩
      · rcases j with _ | j
        · simp at hx
          exact ⟨i, rfl, hi, hn', hx.symm, by omega⟩
        · rw [List.getElem?_cons_succ] at hx
          rw [List.getElem?_cons_succ]
          exact hr.st j x hx
      · obtain ⟨y, h1, h2, h3⟩ := hr.en
        refine ⟨y, by rw [List.length_cons, List.getElem?_cons_succ]; exact h1, h2, ?_⟩
        rw [List.length_cons]
        rcases h3 with h3 | ⟨h3, h4 | h4⟩
        · exact Or.inl h3
        · exact Or.inr ⟨h3, Or.inl (by omega)⟩
        · exact Or.inr ⟨h3, Or.inr h4⟩
      · have := hr.len2
        rw [List.length_cons]
        omega
theorem rc_up {n d : Int} {l : List (Int × Int)} {s : Nat} {R : List Nat} (h : rdB n d l = true) (hR : RcRun n d l s 0 R) : ∀ (k y : Nat), (0 :: R)[k]? = some y → 0 ≤ fw (plL n d l) y ∧ ndN (plL n d l) y ≤ k
  | 0, y, hy => by
    simp at hy
    subst hy
    simp [ndN, fw_0]
  | k + 1, y, hy => by
    rw [List.getElem?_cons_succ] at hy
    obtain ⟨z, hz, hzl, hzn, e, hlt⟩ := hR.st k y hy
    have hg := grN_gen h hzl hzn
    obtain ⟨i1, i2⟩ := rc_up h hR k z hz
    rw [← e] at hg
    have h1 := fw_le (P := plL n d l) hlt i1 hg.yes
    have h2 := (fw_ge (P := plL n d l) (i := y) (by omega)).2 ⟨z, hlt, i1, hg.yes⟩
    refine ⟨h2, ?_⟩
    rw [ndN, if_pos (by omega)]
    omega
theorem rc_top {n d : Int} {l : List (Int × Int)} {s : Nat} {R : List Nat} (h : rdB n d l = true) (hR : RcRun n d l s 0 R) : ∀ (k y : Nat), (0 :: R)[k]? = some y → ∀ i, i < l.length + 1 → 0 ≤ fw (plL n d l) i → ndN (plL n d l) i ≤ k → i ≤ y
  | 0, y, hy, i, hi, h1, h2 => by
    rcases i with _ | i
    · omega
    · rw [ndN, if_pos (by omega)] at h2
      omega
  | k + 1, y, hy, i, hi, h1, h2 => by
    rw [List.getElem?_cons_succ] at hy
    obtain ⟨z, hz, hzl, hzn, e, hlt⟩ := hR.st k y hy
    have hg := grN_gen h hzl hzn
    rw [← e] at hg
    rcases Nat.eq_zero_or_pos i with h0 | h0
    · omega
    · obtain ⟨j, hj, j1, j2, j3⟩ := fw_ex h0 h1
      rw [ndN, if_pos h0] at h2
      have hjz := rc_top h hR k z hz j (by omega) j1 (by omega)
      rcases Nat.lt_or_ge y i with hyi | hyi
      · have hm := nrI_more h hjz (by omega : z < i) (by omega) j2
        rw [hg.no i hyi (by omega)] at hm
        cases hm
      · exact hyi
theorem rc_stuck {n d : Int} {l : List (Int × Int)} (h : rdB n d l = true) {y : Nat} (hy : y < l.length + 1) (hn : nrI n d l y (l.length + 1) = false) (he : grN n d l y = y) : ∀ i, i < l.length + 1 → 0 ≤ fw (plL n d l) i → i ≤ y := by
  have hg := grN_gen h hy hn
  rw [he] at hg
  intro i
  induction i using Nat.strongRecOn with
  | ind i ih =>
    intro hi h1
    rcases Nat.eq_zero_or_pos i with h0 | h0
    · omega
    · obtain ⟨j, hj, j1, j2, j3⟩ := fw_ex h0 h1
      have hjy := ih j hj (by omega) j1
      rcases Nat.lt_or_ge y i with hyi | hyi
      · have hm := nrI_more h hjy hyi (by omega) j2
        rw [hg.no i hyi (by omega)] at hm
        cases hm
      · exact hyi
/-- The place that is come to with so many stops. -/
def rcS (n d : Int) (l : List (Int × Int)) (s : Int) : List Nat := rcR n d l s.toNat 0
def rcY (n d : Int) (l : List (Int × Int)) (s : Int) : Nat := (0 :: rcS n d l s).getD (rcS n d l s).length 0
def upP (p : Int × Int) : Int × Int := (p.1 + p.2, p.2)
def rcO (n d : Int) (l : List (Int × Int)) (s : Int) : Int × Int := if nrI n d l (rcY n d l s) (l.length + 1) = true then (n, d) else upP (atP9 n d l (rcY n d l s))
def rcQ (n d : Int) (l : List (Int × Int)) (s : Int) (i : Nat) : Bool := !(decide (fw (plL n d l) i < 0) || decide (s < ndN (plL n d l) i))
theorem rcQ_iff {n d : Int} {l : List (Int × Int)} {s : Int} {i : Nat} : rcQ n d l s i = true ↔ 0 ≤ fw (plL n d l) i ∧ ndN (plL n d l) i ≤ s := by
  unfold rcQ
  simp
/-- Where the model has come, before place i is looked at. -/
def rcF (n d : Int) (l : List (Int × Int)) (s : Int) (i : Nat) : Int × Int := match lastIx (rcQ n d l s) i with | some y => upP (atP9 n d l y) | none => (0, 1)
theorem rcF_0 (n d : Int) (l : List (Int × Int)) (s : Int) : rcF n d l s 0 = (0, 1) := rfl
theorem rcF_yes {n d : Int} {l : List (Int × Int)} {s : Int} {i : Nat} (h : rcQ n d l s i = true) : rcF n d l s (i + 1) = upP (atP9 n d l i) := by
  simp [rcF, lastIx, h]
theorem rcF_no {n d : Int} {l : List (Int × Int)} {s : Int} {i : Nat} (h : rcQ n d l s i = false) : rcF n d l s (i + 1) = rcF n d l s i := by
  simp [rcF, lastIx, h]
theorem up_am {n d : Int} {l : List (Int × Int)} (h : rdB n d l = true) {i : Nat} (hi : i < l.length + 2) : amB (upP (atP9 n d l i)).1 (upP (atP9 n d l i)).2 = true := by
  have hr := rp9 h hi
  have ha := (amB_iff _ _).1 (rp_am hr)
  unfold rpB at hr
  rw [Bool.and_eq_true, decide_eq_true_eq] at hr
  generalize atP9 n d l i = p at *
  obtain ⟨x, y⟩ := p
  simp only at hr ha
  show amB (x + y) y = true
  refine (amB_iff _ _).2 ⟨by omega, by omega, by omega, by omega, ?_⟩
  have e : gi (x + y) y = gi x y := by
    unfold gi
    rw [Int.gcd_add_right_left_of_dvd x (Int.dvd_refl y)]
  rw [e]
  exact ha.2.2.2.2
theorem rcF_am {n d : Int} {l : List (Int × Int)} (h : rdB n d l = true) (s : Int) {i : Nat} (hi : i < l.length + 2) : amB (rcF n d l s i).1 (rcF n d l s i).2 = true := by
  unfold rcF
  split
  · next y hy => exact up_am h (by have := (lastIx_is hy).1; omega)
  · exact am01
theorem rcF_gt {n d : Int} {l : List (Int × Int)} (h : rdB n d l = true) (s : Int) {i : Nat} (hi : i < l.length + 1) : 0 < (upP (atP9 n d l i)).1 * (rcF n d l s i).2 - (rcF n d l s i).1 * (upP (atP9 n d l i)).2 := by
  have hA := am_of _ _ (rp_am (rp9 h (by omega : i < l.length + 2)))
  have h1 := hA.a
  have h2 := hA.c
  unfold rcF
  split
  · next y hy =>
    have hy1 := (lastIx_is hy).1
    have hlt := rd_lt h (by omega) (i - y - 1) y _ _ (atP9_get (by omega)) (by rw [show y + (i - y - 1) + 1 = i by omega]; exact atP9_get (by omega))
    generalize atP9 n d l y = q at *
    generalize atP9 n d l i = p at *
    show 0 < (p.1 + p.2) * q.2 - (q.1 + q.2) * p.2
    rw [Int.add_mul, Int.add_mul, Int.mul_comm q.2 p.2]
    omega
  · generalize atP9 n d l i = p at *
    show 0 < (p.1 + p.2) * 1 - 0 * p.2
    omega
/-- What the model answers. -/
def rcZ (n d : Int) (l : List (Int × Int)) (s : Int) : Int × Int := if 0 < (rcF n d l s (l.length + 1)).1 * d - n * (rcF n d l s (l.length + 1)).2 then (n, d) else rcF n d l s (l.length + 1)
theorem rc_eq {n d : Int} {l : List (Int × Int)} {s : Int} (h : rdB n d l = true) (hs : 0 ≤ s) : rcZ n d l s = rcO n d l s := by
  have hR := rcR_run h s.toNat 0 (by omega)
  obtain ⟨y, hy, hyl, hen⟩ := hR.en
  have hyY : rcY n d l s = y := by
    unfold rcY rcS
    rw [List.getD_eq_getElem?_getD, hy]
    rfl
  have hlen := hR.len
  obtain ⟨u1, u2⟩ := rc_up h hR _ y hy
  have hq : rcQ n d l s y = true := rcQ_iff.2 ⟨u1, by omega⟩
  obtain ⟨Y, hY, hyY2⟩ := lastIx_ex hq (by omega : y < l.length + 1)
  have hYi := lastIx_is hY
  have hF : rcF n d l s (l.length + 1) = upP (atP9 n d l Y) := by simp [rcF, hY]
  have hst := mono_at (rd_mono h) (by omega : Y < l.length + 1) (atP9_get (by omega)) (atP9_get (by omega))
  rw [atP9_last] at hst
  have hnr := nr_iff hst
  have hup := up_am h (by omega : Y < l.length + 2)
  have hnd : amB n d = true := rp_am (rdB_1 h).1
  unfold rcZ rcO
  rw [hyY, hF]
  cases hn : nrI n d l y (l.length + 1)
  · rw [if_neg Bool.false_ne_true]
    have hYy : Y = y := by
      obtain ⟨q1, q2⟩ := rcQ_iff.1 hYi.2.1
      have : Y ≤ y := by
        rcases hen with h0 | ⟨_, h0 | h0⟩
        · rw [hn] at h0; cases h0
        · exact rc_top h hR _ y hy Y (by omega) q1 (by omega)
        · exact rc_stuck h hyl hn h0 Y (by omega) q1
      omega
    subst hYy
    have hno : ¬ nrB (atP9 n d l Y) (n, d) = true := by
      have : nrI n d l Y (l.length + 1) = nrB (atP9 n d l Y) (n, d) := by rw [nrI, atP9_last]
      rw [← this, hn]
      simp
    rw [hnr] at hno
    rw [if_neg]
    generalize atP9 n d l Y = p at *
    show ¬ 0 < (p.1 + p.2) * d - n * p.2
    simp only at hno
    rw [Int.add_mul, Int.mul_comm p.2 d]
    omega
  · rw [if_pos rfl]
    have hm := nrI_more h hyY2 (by omega : Y < l.length + 1) (by omega) hn
    rw [nrI, atP9_last] at hm
    have hle := hnr.1 hm
    by_cases hc : 0 < (upP (atP9 n d l Y)).1 * d - n * (upP (atP9 n d l Y)).2
    · rw [if_pos hc]
    · rw [if_neg hc]
      generalize atP9 n d l Y = p at *
      have e : (p.1 + p.2) * d = n * p.2 := by
        have h1 : ¬ 0 < (p.1 + p.2) * d - n * p.2 := hc
        simp only at hle
        have h2 : (p.1 + p.2) * d = p.1 * d + d * p.2 := by rw [Int.add_mul, Int.mul_comm p.2 d]
        omega
      obtain ⟨e1, e2⟩ := cross_eq _ _ _ _ hup hnd e
      exact Prod.ext e1 e2
end Go.Proofs.Ytngoibohkckgpaa

/- A block of two cells that may be written: what an amount's result lies in. -/
namespace Go.Proofs.Ytngoibohkckgpaa
open Go.RowKit
set_option linter.unusedVariables false
set_option linter.unusedSimpArgs false

def Res8 (b : Nat) (w : World) : Prop := ∃ x y, w.cell? ⟨b, 0, none⟩ = some x ∧ w.cell? ⟨b, 1, none⟩ = some y ∧ w.frozen? ⟨b, 0, none⟩ = false ∧ w.frozen? ⟨b, 1, none⟩ = false ∧ b < w.heap.size
theorem Res8.later {b : Nat} {w w' : World} (h : Res8 b w) (hb : Below w.heap.size w w') : Res8 b w' := by
  obtain ⟨x, y, a1, a2, a3, a4, a5⟩ := h
  exact ⟨x, y, keepa hb a5 a1, keepa hb a5 a2, keepf hb a5 a3, keepf hb a5 a4, Nat.lt_of_lt_of_le a5 hb.size⟩
theorem Res8.drew {b : Nat} {w : World} (h : Res8 b w) : Res8 b w.drew := h.later (bdrew (Below.refl _ _))
theorem Res8.alloc {b : Nat} {w : World} (h : Res8 b w) (o : Obj) : Res8 b (w.alloc o) := h.later (balloc (Below.refl _ _) o)
theorem Res8.set {b : Nat} {w : World} (h : Res8 b w) (o : Nat) (v : Value) (ho : o < 2) : Res8 b (w.setCell ⟨b, o, none⟩ v) := by
  obtain ⟨x, y, a1, a2, a3, a4, a5⟩ := h
  have hc : o = 0 ∨ o = 1 := by omega
  rcases hc with rfl | rfl
  · exact ⟨v, y, by simp [go_sem, a1, a2, a5], by simp [go_sem, a1, a2, a5], by simp [go_sem, a3], by simp [go_sem, a4], by simpa using a5⟩
  · exact ⟨x, v, by simp [go_sem, a1, a2, a5], by simp [go_sem, a1, a2, a5], by simp [go_sem, a3], by simp [go_sem, a4], by simpa using a5⟩
theorem Res8.new (w : World) (x y : Value) (t : TypeId) : Res8 w.heap.size (w.alloc (.cells #[x, y] t)) :=
  ⟨x, y, by simp, by simp, by simp, by simp, by simp⟩
theorem Res8.newd (w : World) (x y : Value) (t : TypeId) : Res8 w.heap.size (w.drew.alloc (.cells #[x, y] t)) :=
  ⟨x, y, by simp [go_sem], by simp [go_sem], by simp [go_sem], by simp [go_sem], by simp⟩
end Go.Proofs.Ytngoibohkckgpaa

/- The farthest place with so many stops, of the program. -/
namespace Go.Proofs.Ytngoibohkckgpaa
open Go.ChangeShapes Go.WideShapes Go.ChangeAt Go.RowKit Go.Joins
set_option maxRecDepth 100000
set_option linter.unusedVariables false
set_option linter.unusedSimpArgs false


def rcW (n d : Int) (l : List (Int × Int)) (s : Int) : List Int := (rcS n d l s).map (fun (x : Nat) => (x : Int) - 1)
def rcH (n d : Int) (l : List (Int × Int)) (s : Int) (j : Nat) : Int × Int := atP9 n d l ((0 :: rcS n d l s).getD j 0)
theorem rc_run {n d : Int} {l : List (Int × Int)} (h : rdB n d l = true) (s : Int) : RcRun n d l s.toNat 0 (rcS n d l s) := rcR_run h _ 0 (by omega)
theorem rcH_am {n d : Int} {l : List (Int × Int)} (h : rdB n d l = true) (s : Int) (j : Nat) (hj : j ≤ (rcW n d l s).length) : amB (rcH n d l s j).1 (rcH n d l s j).2 = true := by
  have hR := rc_run h s
  rw [rcW, List.length_map] at hj
  have hlt : (0 :: rcS n d l s).getD j 0 < l.length + 2 := by
    rcases j with _ | j
    · simp
    · obtain ⟨x, hx⟩ : ∃ x, (rcS n d l s)[j]? = some x := ⟨_, List.getElem?_eq_getElem (by omega)⟩
      obtain ⟨y, _, hy, hn, e, _⟩ := hR.st j x hx
      have := (grN_gen h hy hn).le
      have e2 : (0 :: rcS n d l s).getD (j + 1) 0 = x := by rw [List.getD_eq_getElem?_getD, List.getElem?_cons_succ, hx]; rfl
      omega
  exact rp_am (rp9 h hlt)
theorem rc_goes {n d : Int} {l : List (Int × Int)} (h : rdB n d l = true) {s : Int} (h0 : 0 ≤ s) : Goes l (rcW n d l s) (rcH n d l s) (fun j => gfI n d s l (rcH n d l s j) j) (fun j => gfB n d s l (rcH n d l s j) j) := by
  have hR := rc_run h s
  have hl := hR.len2
  have hls := hR.len
  have h16 := (rdB_1 h).2.1
  have hat : ∀ (j y : Nat), (0 :: rcS n d l s)[j]? = some y → rcH n d l s j = atP9 n d l y := fun j y hy => by
    rw [rcH, List.getD_eq_getElem?_getD, hy]
    rfl
  refine ⟨by simp [rcH, atP9_0], fun j x hx => ?_, ?_, by rw [rcW, List.length_map]; omega, by omega⟩
  · rw [rcW, List.getElem?_map] at hx
    obtain ⟨X, hX, rfl⟩ := Option.map_eq_some_iff.1 hx
    obtain ⟨y, hy0, hy, hn, hxe, hlt⟩ := hR.st j X hX
    have hjl := (List.getElem?_eq_some_iff.1 hX).1
    obtain ⟨f1, f2, f3, f4⟩ := (far_next2 h hy hn).1 (by omega)
    rw [← hxe] at f1 f3 f4
    have hS : gfS n d s (atP9 n d l y) j = false := by
      have e : nrB (atP9 n d l y) (n, d) = false := by rw [← atP9_last n d l]; exact hn
      simp [gfS, e]
      omega
    have hX1 : (0 :: rcS n d l s)[j + 1]? = some X := by rw [List.getElem?_cons_succ]; exact hX
    refine ⟨?_, ?_, X - 1, by omega, ?_⟩
    · show gfB n d s l (rcH n d l s j) j = true
      rw [hat j y hy0, gfB, hS, if_neg (by simp)]
      exact f2
    · show gfI n d s l (rcH n d l s j) j = _
      rw [hat j y hy0, gfI, hS, if_neg (by simp)]
      exact f1
    · rw [hat (j + 1) X hX1]
      exact f3
  · obtain ⟨y, hy0, hy, hn⟩ := hR.en
    have hlen : (rcW n d l s).length = (rcS n d l s).length := by rw [rcW, List.length_map]
    rw [hlen, hat _ y hy0, gfB]
    split
    · rfl
    · next hS =>
      have hS1 : ¬ nrI n d l y (l.length + 1) = true := fun hh => hS (by
        have e : nrB (atP9 n d l y) (n, d) = true := by rw [← atP9_last n d l]; exact hh
        simp [gfS, e])
      rcases hn with hn | ⟨hn, h1 | h1⟩
      · exact absurd hn hS1
      · exact absurd (by simp [gfS]; omega) hS
      · exact (far_next2 h hy hn).2 h1
/-- Is there an answer? What is it? -/
def rcK (n d : Int) (l : List (Int × Int)) (s : Int) : Bool := rdB n d l && inB s 0 16
def rcA (n d : Int) (l : List (Int × Int)) (s : Int) : Int × Int := if rcK n d l s = true then rcO n d l s else (0, 0)
theorem rcH_end (n d : Int) (l : List (Int × Int)) (s : Int) : rcH n d l s (rcW n d l s).length = atP9 n d l (rcY n d l s) := by
  rw [rcH, rcW, List.length_map]
  rfl
theorem rcY_le {n d : Int} {l : List (Int × Int)} (h : rdB n d l = true) (s : Int) : rcY n d l s < l.length + 1 := by
  obtain ⟨y, hy0, hy, hn⟩ := (rc_run h s).en
  have : rcY n d l s = y := by rw [rcY, List.getD_eq_getElem?_getD, hy0]; rfl
  omega
theorem add_one (p : Int × Int) (hp : amB p.1 p.2 = true) (hu : amB (upP p).1 (upP p).2 = true) (W : World) :
    Calls Try.prog 49 #[.agg #[.int .i64 p.1, .int .i64 p.2], .agg #[.int .i64 1, .int .i64 1]] W fun e w' => e = .returned (.tuple #[.agg #[.int .i64 (upP p).1, .int .i64 (upP p).2], .bool true]) ∧ Below W.heap.size W w' := by
  have b1 := (amB_iff _ _).1 hp
  have h := plus_pub_impl p.1 p.2 1 1 (by omega) (by omega) (by omega) (by omega) W
  have hok : okk p.1 p.2 1 1 = true := by simp [okk, hp, (show amB 1 1 = true by decide)]
  have h1 := low_am (p.1 + p.2) p.2 hu
  rw [hok, (two_yes _ _).1, (two_yes _ _).2.1, (two_yes _ _).2.2, show p.1 * 1 + 1 * p.2 = p.1 + p.2 by omega, Int.mul_one, h1.1, h1.2.1, h1.2.2] at h
  exact h
set_option maxHeartbeats 6400000 in
theorem reach_impl (n d : Int) (bn : (-9223372036854775808 ≤ n ∧ n ≤ 9223372036854775807)) (bd : (-9223372036854775808 ≤ d ∧ d ≤ 9223372036854775807)) (s : Int) (v : Value) (l : List (Int × Int)) (w : World) (h : RowG 2 fAmt w v l) :
    Calls Try.prog 19 #[.agg #[.int .i64 n, .int .i64 d, v], .int .i64 s] w fun e w' => e = .returned (.tuple #[.agg #[.int .i64 (rcA n d l s).1, .int .i64 (rcA n d l s).2], .bool (rcK n d l s)]) ∧ Below w.heap.size w w' := by
  have HR := Lib.hid (fun W (hB : Below w.heap.size w W) => isRoad_impl n d bn bd v l W (rowG_below h hB))
  cases hr : rdB n d l
  · have e1 : rcK n d l s = false := by simp [rcK, hr]
    have e2 : rcA n d l s = (0, 0) := by simp [rcA, e1]
    rw [e1, e2]
    rw [hr] at HR
    obtain ⟨av, cv, rfl, hl1, hl2⟩ := row_shape h
    clear h hr e1 e2
    go_enter Try.func19, Try.ntmps19
    go_wp2_with fail
    refine (HR.out _ (by (repeat (first | with_reducible exact Below.refl _ _ | with_reducible assumption | with_reducible refine balloc ?_ _ | with_reducible refine bdrew ?_ | with_reducible refine below_drewN ?_ _ | with_reducible refine bset ?_ ?_ _ | with_reducible exact Nat.le_refl _ | with_reducible refine bsize ?_ | (dsimp only; refine Nat.le_trans ?_ (Nat.le_add_right _ _)) | with_reducible refine Nat.le_trans ?_ (Nat.le_add_right _ _) | (with_reducible refine bstep ?_ (by assumption)))))).mono ?_
    rintro e w1 ⟨rfl, hb1⟩
    have fr1 := Res8.later (by have h := Res8.new (w.alloc (.cells #[.int .i64 n, .int .i64 d, .slice av l.length cv] 34)) (.int .i64 0) (.int .i64 0) 31; simp only [World.size_alloc] at h; exact h) hb1
    obtain ⟨rx, ry, r0, r1, rz0, rz1, rz⟩ := fr1
    go_wp2
    refine bodyPost_ret (v := .tuple #[.agg #[.int .i64 0, .int .i64 0], .bool false]) (by simp only [results, Try.results19]; go_simp) rfl ?_
    exact ⟨rfl, by (repeat (first | with_reducible exact Below.refl _ _ | with_reducible assumption | with_reducible refine balloc ?_ _ | with_reducible refine bdrew ?_ | with_reducible refine below_drewN ?_ _ | with_reducible refine bset ?_ ?_ _ | with_reducible exact Nat.le_refl _ | with_reducible refine bsize ?_ | (dsimp only; refine Nat.le_trans ?_ (Nat.le_add_right _ _)) | with_reducible refine Nat.le_trans ?_ (Nat.le_add_right _ _) | (with_reducible refine bstep ?_ (by assumption))))⟩
  · have HI := Lib.hid (fun W => in_impl s 0 16 W)
    cases hk : inB s 0 16
    · have e1 : rcK n d l s = false := by simp [rcK, hk]
      have e2 : rcA n d l s = (0, 0) := by simp [rcA, e1]
      rw [e1, e2]
      rw [hr] at HR
      rw [hk] at HI
      obtain ⟨av, cv, rfl, hl1, hl2⟩ := row_shape h
      clear h hr e1 e2 hk
      go_enter Try.func19, Try.ntmps19
      go_wp2_with fail
      refine (HR.out _ (by (repeat (first | with_reducible exact Below.refl _ _ | with_reducible assumption | with_reducible refine balloc ?_ _ | with_reducible refine bdrew ?_ | with_reducible refine below_drewN ?_ _ | with_reducible refine bset ?_ ?_ _ | with_reducible exact Nat.le_refl _ | with_reducible refine bsize ?_ | (dsimp only; refine Nat.le_trans ?_ (Nat.le_add_right _ _)) | with_reducible refine Nat.le_trans ?_ (Nat.le_add_right _ _) | (with_reducible refine bstep ?_ (by assumption)))))).mono ?_
      rintro e w1 ⟨rfl, hb1⟩
      have fr1 := Res8.later (by have h := Res8.new (w.alloc (.cells #[.int .i64 n, .int .i64 d, .slice av l.length cv] 34)) (.int .i64 0) (.int .i64 0) 31; simp only [World.size_alloc] at h; exact h) hb1
      obtain ⟨rx, ry, r0, r1, rz0, rz1, rz⟩ := fr1
      go_wp2_with fail
      refine (HI.out _).mono ?_
      rintro e w2 ⟨rfl, rfl⟩
      go_wp2
      refine bodyPost_ret (v := .tuple #[.agg #[.int .i64 0, .int .i64 0], .bool false]) (by simp only [results, Try.results19]; go_simp) rfl ?_
      exact ⟨rfl, by (repeat (first | with_reducible exact Below.refl _ _ | with_reducible assumption | with_reducible refine balloc ?_ _ | with_reducible refine bdrew ?_ | with_reducible refine below_drewN ?_ _ | with_reducible refine bset ?_ ?_ _ | with_reducible exact Nat.le_refl _ | with_reducible refine bsize ?_ | (dsimp only; refine Nat.le_trans ?_ (Nat.le_add_right _ _)) | with_reducible refine Nat.le_trans ?_ (Nat.le_add_right _ _) | (with_reducible refine bstep ?_ (by assumption))))⟩
    · have hs : 0 ≤ s := by have := of_decide_eq_true hk; exact this.1
      have e1 : rcK n d l s = true := by simp [rcK, hr, hk]
      have e2 : rcA n d l s = rcO n d l s := by simp [rcA, e1]
      rw [e1, e2]
      have hw : amB n d = true := rp_am (rdB_1 hr).1
      have hP : ∀ q ∈ l, amB q.1 q.2 = true := fun q hq => rp_am ((rdB_1 hr).2.2 q hq)
      have HG := Lib.hid (fun (W : World) (hB : Below w.heap.size w W) => goFar_impl n d s v l hw hP (rcW n d l s) (rcH n d l s) (rcH_am hr s) (rc_goes hr hs) W (rowG_below h hB))
      rw [rcH_end] at HG
      have hY := rcY_le hr s
      have hp := rp_am (rp9 hr (by omega : rcY n d l s < l.length + 2))
      have hu := up_am hr (by omega : rcY n d l s < l.length + 2)
      have HN := Lib.hid (fun W => near_impl (atP9 n d l (rcY n d l s)) (n, d) hp hw W)
      have HA := Lib.hid (fun W => add_one (atP9 n d l (rcY n d l s)) hp hu W)
      have HO : Hid (rcO n d l s = if nrB (atP9 n d l (rcY n d l s)) (n, d) = true then (n, d) else upP (atP9 n d l (rcY n d l s))) := Lib.hid (by rw [rcO, nrI, atP9_last])
      rw [hr] at HR
      rw [hk] at HI
      obtain ⟨av, cv, rfl, hl1, hl2⟩ := row_shape h
      clear h hr e1 e2 hk hY hP hw hp
      generalize rcO n d l s = o at *
      generalize rcW n d l s = ws at *
      generalize (atP9 n d l (rcY n d l s)) = q at *
      cases hn : nrB q (n, d)
      · rw [hn] at HN
        have ho : o = upP q := by rw [HO.out, hn]; rfl
        subst ho
        clear hn HO hu
        generalize upP q = o at *
        go_enter Try.func19, Try.ntmps19
        go_wp2_with fail
        refine (HR.out _ (by (repeat (first | with_reducible exact Below.refl _ _ | with_reducible assumption | with_reducible refine balloc ?_ _ | with_reducible refine bdrew ?_ | with_reducible refine below_drewN ?_ _ | with_reducible refine bset ?_ ?_ _ | with_reducible exact Nat.le_refl _ | with_reducible refine bsize ?_ | (dsimp only; refine Nat.le_trans ?_ (Nat.le_add_right _ _)) | with_reducible refine Nat.le_trans ?_ (Nat.le_add_right _ _) | (with_reducible refine bstep ?_ (by assumption)))))).mono ?_
        rintro e w1 ⟨rfl, hb1⟩
        have f1 : Below w.heap.size w w1 := by (repeat (first | with_reducible exact Below.refl _ _ | with_reducible assumption | with_reducible refine balloc ?_ _ | with_reducible refine bdrew ?_ | with_reducible refine below_drewN ?_ _ | with_reducible refine bset ?_ ?_ _ | with_reducible exact Nat.le_refl _ | with_reducible refine bsize ?_ | (dsimp only; refine Nat.le_trans ?_ (Nat.le_add_right _ _)) | with_reducible refine Nat.le_trans ?_ (Nat.le_add_right _ _) | (with_reducible refine bstep ?_ (by assumption))))
        have R1 := (((RdAt.new w n d (.slice av l.length cv) 34).alloc (.cells #[.int .i64 0, .int .i64 0] 31))).later hb1
        have fr1 := Res8.later (by have h := Res8.new (w.alloc (.cells #[.int .i64 n, .int .i64 d, .slice av l.length cv] 34)) (.int .i64 0) (.int .i64 0) 31; simp only [World.size_alloc] at h; exact h) hb1
        obtain ⟨x0, x1, x2, xz⟩ := id R1
        clear hb1
        go_wp2_with fail
        refine (HI.out _).mono ?_
        rintro e w2 ⟨rfl, rfl⟩
        go_wp2_with fail
        refine (HG.out _ f1).mono ?_
        rintro e w3 ⟨sl, rfl, hown, hb3⟩
        obtain ⟨sa, sc, rfl⟩ := owns_shape hown
        have f3 := bstep f1 hb3
        have R3 := R1.later hb3
        have fr3 := fr1.later hb3
        clear x0 x1 x2 xz R1 fr1 hb3 hown f1
        obtain ⟨x0, x1, x2, xz⟩ := id R3
        go_wp2_with fail
        refine (HN.out _).mono ?_
        rintro e w4 ⟨rfl, hb4⟩
        have y0 : w4.cell? ⟨w3.heap.size, 0, none⟩ = some (.int .i64 q.1) := (hb4.cell (p := ⟨w3.heap.size, 0, none⟩) (by simp)).trans (by simp [go_sem])
        have y1 : w4.cell? ⟨w3.heap.size, 1, none⟩ = some (.int .i64 q.2) := (hb4.cell (p := ⟨w3.heap.size, 1, none⟩) (by simp)).trans (by simp [go_sem])
        have yz : w3.heap.size < w4.heap.size := Nat.lt_of_lt_of_le (by simp) hb4.size
        have fr4 := (fr3.alloc (.cells #[.int .i64 q.1, .int .i64 q.2] 31)).later hb4
        have f4 : Below w.heap.size w w4 := bstep (balloc f3 _) hb4
        have hz4 := f4.size
        have hz5 : w.heap.size + 1 < w4.heap.size := by obtain ⟨_, _, _, _, _, _, h⟩ := fr4; exact h
        have hB1 : w.heap.size + 1 < w3.heap.size := by obtain ⟨_, _, _, _, _, _, h⟩ := fr3; exact h
        have hne : ¬ w3.heap.size = w.heap.size + 1 := by omega
        have hne2 : ¬ w.heap.size + 1 = w3.heap.size := by omega
        clear x0 x1 x2 xz R3 fr3 hb4 f3
        generalize w3.heap.size = B at *
        go_upto_region 6 with fail
        go_region_held3 (fun W => Below w.heap.size w W ∧ Res8 (w.heap.size + 1) W ∧ w.heap.size + 1 < W.heap.size ∧ B < W.heap.size ∧ W.cell? ⟨B, 0, none⟩ = some (.int .i64 q.1) ∧ W.cell? ⟨B, 1, none⟩ = some (.int .i64 q.2)) (((go_split_ands; (repeat' with_reducible apply And.intro) <;> first | with_reducible assumption | with_reducible exact Below.refl _ _ | with_reducible exact Res8.drew (by with_reducible assumption) | with_reducible exact Res8.drew (Res8.alloc (by with_reducible assumption) _) | with_reducible exact Res8.alloc (by with_reducible assumption) _ | with_reducible exact (Res8.set (Res8.set (by with_reducible assumption) 0 _ (by omega)) 1 _ (by omega)) | with_reducible exact Res8.drew (Res8.set (Res8.set (by with_reducible assumption) 0 _ (by omega)) 1 _ (by omega)) | ((repeat (first | with_reducible exact Below.refl _ _ | with_reducible assumption | with_reducible refine balloc ?_ _ | with_reducible refine bdrew ?_ | with_reducible refine below_drewN ?_ _ | with_reducible refine bset ?_ ?_ _ | with_reducible exact Nat.le_refl _ | with_reducible refine bsize ?_ | (dsimp only; refine Nat.le_trans ?_ (Nat.le_add_right _ _)) | with_reducible refine Nat.le_trans ?_ (Nat.le_add_right _ _) | (with_reducible refine bstep ?_ (by assumption)))); done) | (simp [go_sem]; done) | (simp; omega) | (simp [go_sem, *]; done) | go_keep))) (first | (go_at_call 50; refine (whole_bi _ _).mono ?_; rintro e w3 ⟨rfl, hb3⟩; (have fr := Res8.later (by first | with_reducible assumption | with_reducible exact Res8.drew (by with_reducible assumption)) hb3); go_split_ands; (have f0 : Below w.heap.size w w3 := bstep (by first | with_reducible assumption | ((repeat (first | with_reducible exact Below.refl _ _ | with_reducible assumption | with_reducible refine balloc ?_ _ | with_reducible refine bdrew ?_ | with_reducible refine below_drewN ?_ _ | with_reducible refine bset ?_ ?_ _ | with_reducible exact Nat.le_refl _ | with_reducible refine bsize ?_ | (dsimp only; refine Nat.le_trans ?_ (Nat.le_add_right _ _)) | with_reducible refine Nat.le_trans ?_ (Nat.le_add_right _ _) | (with_reducible refine bstep ?_ (by assumption)))); done)) hb3); (have sz := hb3.size); (try simp only [go_sem] at sz); (have g1 : w3.cell? ⟨B, 0, none⟩ = some (.int .i64 q.1) := keepa hb3 (by first | with_reducible assumption | omega | (simp; omega)) (by first | with_reducible assumption | (simp [go_sem]; done) | (simp [go_sem, *]; done))); (have g2 : w3.cell? ⟨B, 1, none⟩ = some (.int .i64 q.2) := keepa hb3 (by first | with_reducible assumption | omega | (simp; omega)) (by first | with_reducible assumption | (simp [go_sem]; done) | (simp [go_sem, *]; done))); (have fz : w.heap.size + 1 < w3.heap.size := by omega); (have fy : B < w3.heap.size := by omega)) | (go_at_call 49; refine (HA.out _).mono ?_; rintro e w3 ⟨rfl, hb3⟩; (try have fr := Res8.later (by first | with_reducible assumption | with_reducible exact Res8.drew (by with_reducible assumption) | with_reducible exact Res8.drew (Res8.alloc (by with_reducible assumption) _) | with_reducible exact Res8.alloc (by with_reducible assumption) _) hb3); (try (have fr2 := fr; obtain ⟨rx, ry, r1, r2, r3, r4, rz⟩ := fr2)); go_split_ands; (have f0 : Below w.heap.size w w3 := bstep (by first | with_reducible assumption | ((repeat (first | with_reducible exact Below.refl _ _ | with_reducible assumption | with_reducible refine balloc ?_ _ | with_reducible refine bdrew ?_ | with_reducible refine below_drewN ?_ _ | with_reducible refine bset ?_ ?_ _ | with_reducible exact Nat.le_refl _ | with_reducible refine bsize ?_ | (dsimp only; refine Nat.le_trans ?_ (Nat.le_add_right _ _)) | with_reducible refine Nat.le_trans ?_ (Nat.le_add_right _ _) | (with_reducible refine bstep ?_ (by assumption)))); done)) hb3); (have sz := hb3.size); (try simp only [go_sem] at sz); (have g1 : w3.cell? ⟨B, 0, none⟩ = some (.int .i64 q.1) := keepa hb3 (by first | with_reducible assumption | omega | (simp; omega)) (by first | with_reducible assumption | (simp [go_sem]; done) | (simp [go_sem, *]; done))); (have g2 : w3.cell? ⟨B, 1, none⟩ = some (.int .i64 q.2) := keepa hb3 (by first | with_reducible assumption | omega | (simp; omega)) (by first | with_reducible assumption | (simp [go_sem]; done) | (simp [go_sem, *]; done))); (have fz : w.heap.size + 1 < w3.heap.size := by omega); (have fy : B < w3.heap.size := by omega)))
        all_goals go_wp2
        all_goals refine bodyPost_ret (v := .tuple #[.agg #[.int .i64 o.1, .int .i64 o.2], .bool true]) (by simp only [results, Try.results19]; go_simp) rfl ?_
        all_goals exact ⟨rfl, by (repeat (first | with_reducible exact Below.refl _ _ | with_reducible assumption | with_reducible refine balloc ?_ _ | with_reducible refine bdrew ?_ | with_reducible refine below_drewN ?_ _ | with_reducible refine bset ?_ ?_ _ | with_reducible exact Nat.le_refl _ | with_reducible refine bsize ?_ | (dsimp only; refine Nat.le_trans ?_ (Nat.le_add_right _ _)) | with_reducible refine Nat.le_trans ?_ (Nat.le_add_right _ _) | (with_reducible refine bstep ?_ (by assumption))))⟩
      · rw [hn] at HN
        have ho : o = (n, d) := by rw [HO.out, hn]; rfl
        subst ho
        clear hn HO hu HA
        go_enter Try.func19, Try.ntmps19
        go_wp2_with fail
        refine (HR.out _ (by (repeat (first | with_reducible exact Below.refl _ _ | with_reducible assumption | with_reducible refine balloc ?_ _ | with_reducible refine bdrew ?_ | with_reducible refine below_drewN ?_ _ | with_reducible refine bset ?_ ?_ _ | with_reducible exact Nat.le_refl _ | with_reducible refine bsize ?_ | (dsimp only; refine Nat.le_trans ?_ (Nat.le_add_right _ _)) | with_reducible refine Nat.le_trans ?_ (Nat.le_add_right _ _) | (with_reducible refine bstep ?_ (by assumption)))))).mono ?_
        rintro e w1 ⟨rfl, hb1⟩
        have f1 : Below w.heap.size w w1 := by (repeat (first | with_reducible exact Below.refl _ _ | with_reducible assumption | with_reducible refine balloc ?_ _ | with_reducible refine bdrew ?_ | with_reducible refine below_drewN ?_ _ | with_reducible refine bset ?_ ?_ _ | with_reducible exact Nat.le_refl _ | with_reducible refine bsize ?_ | (dsimp only; refine Nat.le_trans ?_ (Nat.le_add_right _ _)) | with_reducible refine Nat.le_trans ?_ (Nat.le_add_right _ _) | (with_reducible refine bstep ?_ (by assumption))))
        have R1 := (((RdAt.new w n d (.slice av l.length cv) 34).alloc (.cells #[.int .i64 0, .int .i64 0] 31))).later hb1
        have fr1 := Res8.later (by have h := Res8.new (w.alloc (.cells #[.int .i64 n, .int .i64 d, .slice av l.length cv] 34)) (.int .i64 0) (.int .i64 0) 31; simp only [World.size_alloc] at h; exact h) hb1
        obtain ⟨x0, x1, x2, xz⟩ := id R1
        clear hb1
        go_wp2_with fail
        refine (HI.out _).mono ?_
        rintro e w2 ⟨rfl, rfl⟩
        go_wp2_with fail
        refine (HG.out _ f1).mono ?_
        rintro e w3 ⟨sl, rfl, hown, hb3⟩
        obtain ⟨sa, sc, rfl⟩ := owns_shape hown
        have f3 := bstep f1 hb3
        have R3 := R1.later hb3
        have fr3 := fr1.later hb3
        clear x0 x1 x2 xz R1 fr1 hb3 hown f1
        obtain ⟨x0, x1, x2, xz⟩ := id R3
        go_wp2_with fail
        refine (HN.out _).mono ?_
        rintro e w4 ⟨rfl, hb4⟩
        have f4 : Below w.heap.size w w4 := bstep (balloc f3 _) hb4
        have R4 := (R3.alloc (.cells #[.int .i64 q.1, .int .i64 q.2] 31)).later hb4
        have fr4 := (fr3.alloc (.cells #[.int .i64 q.1, .int .i64 q.2] 31)).later hb4
        clear x0 x1 x2 xz R3 fr3 hb4 f3
        obtain ⟨x0, x1, x2, xz⟩ := id R4
        obtain ⟨rx, ry, r0, r1, rz0, rz1, rz⟩ := fr4
        go_wp2
        refine bodyPost_ret (v := .tuple #[.agg #[.int .i64 n, .int .i64 d], .bool true]) (by simp only [results, Try.results19]; go_simp) rfl ?_
        exact ⟨rfl, by (repeat (first | with_reducible exact Below.refl _ _ | with_reducible assumption | with_reducible refine balloc ?_ _ | with_reducible refine bdrew ?_ | with_reducible refine below_drewN ?_ _ | with_reducible refine bset ?_ ?_ _ | with_reducible exact Nat.le_refl _ | with_reducible refine bsize ?_ | (dsimp only; refine Nat.le_trans ?_ (Nat.le_add_right _ _)) | with_reducible refine Nat.le_trans ?_ (Nat.le_add_right _ _) | (with_reducible refine bstep ?_ (by assumption))))⟩
end Go.Proofs.Ytngoibohkckgpaa

/- The farthest place with so many stops, of the model. -/
namespace Go.Proofs.Ytngoibohkckgpaa
open Go.ChangeShapes Go.WideShapes Go.ChangeAt Go.RowKit Go.Joins
set_option maxRecDepth 100000
set_option linter.unusedVariables false
set_option linter.unusedSimpArgs false


theorem add_one_spec (p : Int × Int) (hp : amB p.1 p.2 = true) (hu : amB (upP p).1 (upP p).2 = true) (W : World) :
    Calls Try.prog 44 #[.agg #[.int .i64 p.1, .int .i64 p.2], .agg #[.int .i64 1, .int .i64 1]] W fun e w' => e = .returned (.tuple #[.agg #[.int .i64 (upP p).1, .int .i64 (upP p).2], .bool true]) ∧ Below W.heap.size W w' := by
  have h := amAdd_spec p.1 p.2 1 1 (am_of _ _ hp) (am_of 1 1 (by decide)) W
  have h1 := low_am (p.1 + p.2) p.2 hu
  rw [show p.1 * 1 + 1 * p.2 = p.1 + p.2 by omega, Int.mul_one, h1.1, h1.2.1, h1.2.2] at h
  exact h
theorem sg_one {x : Int} (h : 0 < x) : sgI x = 1 := by simp [sgI, h]
theorem sg_not {x : Int} (h : ¬ 0 < x) : ¬ 0 < sgI x := by unfold sgI; rw [if_neg h]; split <;> omega
set_option maxHeartbeats 12800000 in
theorem reach_spec (n d : Int) (bn : (-9223372036854775808 ≤ n ∧ n ≤ 9223372036854775807)) (bd : (-9223372036854775808 ≤ d ∧ d ≤ 9223372036854775807)) (s : Int) (v : Value) (l : List (Int × Int)) (w : World) (h : RowG 2 fAmt w v l) :
    Calls Try.prog 18 #[.agg #[.int .i64 n, .int .i64 d, v], .int .i64 s] w fun e w' => e = .returned (.tuple #[.agg #[.int .i64 (rcA n d l s).1, .int .i64 (rcA n d l s).2], .bool (rcK n d l s)]) ∧ Below w.heap.size w w' := by
  have HR := Lib.hid (fun W (hB : Below w.heap.size w W) => weGood_spec n d bn bd v l W (rowG_below h hB))
  cases hr : rdB n d l
  · have e1 : rcK n d l s = false := by simp [rcK, hr]
    have e2 : rcA n d l s = (0, 0) := by simp [rcA, e1]
    rw [e1, e2]
    rw [hr] at HR
    obtain ⟨av, cv, rfl, hl1, hl2⟩ := row_shape h
    clear h hr e1 e2
    go_enter Try.func18, Try.ntmps18
    go_wp2_with fail
    refine (HR.out _ (by (repeat (first | with_reducible exact Below.refl _ _ | with_reducible assumption | with_reducible refine balloc ?_ _ | with_reducible refine bdrew ?_ | with_reducible refine below_drewN ?_ _ | with_reducible refine bset ?_ ?_ _ | with_reducible exact Nat.le_refl _ | with_reducible refine bsize ?_ | (dsimp only; refine Nat.le_trans ?_ (Nat.le_add_right _ _)) | with_reducible refine Nat.le_trans ?_ (Nat.le_add_right _ _) | (with_reducible refine bstep ?_ (by assumption)))))).mono ?_
    rintro e w1 ⟨rfl, hb1⟩
    have fr1 := Res8.later (by have h := Res8.new (w.alloc (.cells #[.int .i64 n, .int .i64 d, .slice av l.length cv] 34)) (.int .i64 0) (.int .i64 0) 31; simp only [World.size_alloc] at h; exact h) hb1
    obtain ⟨rx, ry, r0, r1, rz0, rz1, rz⟩ := fr1
    go_wp2
    refine bodyPost_ret (v := .tuple #[.agg #[.int .i64 0, .int .i64 0], .bool false]) (by simp only [results, Try.results18]; go_simp) rfl ?_
    exact ⟨rfl, by (repeat (first | with_reducible exact Below.refl _ _ | with_reducible assumption | with_reducible refine balloc ?_ _ | with_reducible refine bdrew ?_ | with_reducible refine below_drewN ?_ _ | with_reducible refine bset ?_ ?_ _ | with_reducible exact Nat.le_refl _ | with_reducible refine bsize ?_ | (dsimp only; refine Nat.le_trans ?_ (Nat.le_add_right _ _)) | with_reducible refine Nat.le_trans ?_ (Nat.le_add_right _ _) | (with_reducible refine bstep ?_ (by assumption))))⟩
  have HI := Lib.hid (fun W => in_spec s 0 16 W)
  cases hk : inB s 0 16
  · have e1 : rcK n d l s = false := by simp [rcK, hk]
    have e2 : rcA n d l s = (0, 0) := by simp [rcA, e1]
    rw [e1, e2]
    rw [hr] at HR
    rw [hk] at HI
    obtain ⟨av, cv, rfl, hl1, hl2⟩ := row_shape h
    clear h hr e1 e2 hk
    go_enter Try.func18, Try.ntmps18
    go_wp2_with fail
    refine (HR.out _ (by (repeat (first | with_reducible exact Below.refl _ _ | with_reducible assumption | with_reducible refine balloc ?_ _ | with_reducible refine bdrew ?_ | with_reducible refine below_drewN ?_ _ | with_reducible refine bset ?_ ?_ _ | with_reducible exact Nat.le_refl _ | with_reducible refine bsize ?_ | (dsimp only; refine Nat.le_trans ?_ (Nat.le_add_right _ _)) | with_reducible refine Nat.le_trans ?_ (Nat.le_add_right _ _) | (with_reducible refine bstep ?_ (by assumption)))))).mono ?_
    rintro e w1 ⟨rfl, hb1⟩
    have fr1 := Res8.later (by have h := Res8.new (w.alloc (.cells #[.int .i64 n, .int .i64 d, .slice av l.length cv] 34)) (.int .i64 0) (.int .i64 0) 31; simp only [World.size_alloc] at h; exact h) hb1
    obtain ⟨rx, ry, r0, r1, rz0, rz1, rz⟩ := fr1
    go_wp2_with fail
    refine (HI.out _).mono ?_
    rintro e w2 ⟨rfl, rfl⟩
    go_wp2
    refine bodyPost_ret (v := .tuple #[.agg #[.int .i64 0, .int .i64 0], .bool false]) (by simp only [results, Try.results18]; go_simp) rfl ?_
    exact ⟨rfl, by (repeat (first | with_reducible exact Below.refl _ _ | with_reducible assumption | with_reducible refine balloc ?_ _ | with_reducible refine bdrew ?_ | with_reducible refine below_drewN ?_ _ | with_reducible refine bset ?_ ?_ _ | with_reducible exact Nat.le_refl _ | with_reducible refine bsize ?_ | (dsimp only; refine Nat.le_trans ?_ (Nat.le_add_right _ _)) | with_reducible refine Nat.le_trans ?_ (Nat.le_add_right _ _) | (with_reducible refine bstep ?_ (by assumption))))⟩
  have hs : 0 ≤ s ∧ s ≤ 16 := of_decide_eq_true hk
  have e1 : rcK n d l s = true := by simp [rcK, hr, hk]
  have e2 : rcA n d l s = rcZ n d l s := by rw [rcA, if_pos e1, rc_eq hr hs.1]
  rw [e1, e2]
  have hall := plL_am hr
  have h16 := (rdB_1 hr).2.1
  have hPlen := plL_len n d l
  have hwa : amB n d = true := rp_am (rdB_1 hr).1
  have HPl := Lib.hid (fun W (hB : Below w.heap.size w W) => places_spec n d v l W (rowG_below h hB) (by omega))
  have HB := Lib.hid (am_bd hall)
  have HF := Lib.hid (fun a cap W hL => few_spec a cap (plL n d l) hall (by omega) (by omega) W hL)
  have HX : Hid (∀ j, j < l.length + 1 → (fwF (plL n d l) (plL n d l).length)[j]? = some (fw (plL n d l) j)) := Lib.hid (fun j hj => by
    have h1 := fwF_fw (P := plL n d l) (show j < (plL n d l).length by omega)
    rw [List.getD_eq_getElem?_getD] at h1
    rw [List.getElem?_eq_getElem (by rw [fwF_len]; omega)] at h1 ⊢
    simp at h1
    rw [h1])
  have HXB := Lib.hid (fun j => fw_bd (plL n d l) j)
  have HGP := Lib.hid (fun i (hi : i < l.length + 2) => atP9_get (n := n) (d := d) (l := l) hi)
  have HA := Lib.hid (fun j (hj : j < l.length + 1) W => add_one_spec (atP9 n d l j) (rp_am (rp9 hr (by omega))) (up_am hr (by omega)) W)
  have HC9 := Lib.hid (fun j (hj : j < l.length + 1) W => (by
    have h := cmp_spec (upP (atP9 n d l j)).1 (upP (atP9 n d l j)).2 (rcF n d l s j).1 (rcF n d l s j).2 (am_of _ _ (up_am hr (by omega))) (am_of _ _ (rcF_am hr s (by omega))) W
    rw [sg_one (rcF_gt hr s hj)] at h
    exact h : Calls Try.prog 45 #[.agg #[.int .i64 (upP (atP9 n d l j)).1, .int .i64 (upP (atP9 n d l j)).2], .agg #[.int .i64 (rcF n d l s j).1, .int .i64 (rcF n d l s j).2]] W fun e w' => e = .returned (.int .i64 1) ∧ Below W.heap.size W w'))
  have HCE := Lib.hid (fun W => cmp_spec (rcF n d l s (l.length + 1)).1 (rcF n d l s (l.length + 1)).2 n d (am_of _ _ (rcF_am hr s (by omega))) (am_of _ _ hwa) W)
  have HQY := Lib.hid (fun j (hq : rcQ n d l s j = true) => rcF_yes hq)
  have HQN := Lib.hid (fun j (hq : rcQ n d l s j = false) => rcF_no hq)
  have HZ : Hid (rcZ n d l s = if 0 < (rcF n d l s (l.length + 1)).1 * d - n * (rcF n d l s (l.length + 1)).2 then (n, d) else rcF n d l s (l.length + 1)) := Lib.hid rfl
  rw [hr] at HR
  rw [hk] at HI
  obtain ⟨av, cv, rfl, hl1, hl2⟩ := row_shape h
  clear h hr e1 e2 hk hall hwa
  generalize rcZ n d l s = Z at *
  obtain ⟨N, hN⟩ : ∃ N, (plL n d l).length = N := ⟨_, rfl⟩
  obtain ⟨m, hm⟩ : ∃ m, l.length + 1 = m := ⟨_, rfl⟩
  have hNm : N ≤ m + 1 ∧ m + 1 ≤ N := by omega
  have hm17 : m ≤ 17 := by omega
  have hm1 : 1 ≤ m := by omega
  rw [hN] at HF HX
  rw [hm] at HX HA HC9 HCE HZ
  have HGP2 := Lib.hid (fun i (hi : i < m) => HGP.out i (by omega))
  have HN0 := Lib.hid hN
  clear hPlen HGP hm hN
  go_enter Try.func18, Try.ntmps18
  go_wp2_with fail
  refine (HR.out _ (by (repeat (first | with_reducible exact Below.refl _ _ | with_reducible assumption | with_reducible refine balloc ?_ _ | with_reducible refine bdrew ?_ | with_reducible refine below_drewN ?_ _ | with_reducible refine bset ?_ ?_ _ | with_reducible exact Nat.le_refl _ | with_reducible refine bsize ?_ | (dsimp only; refine Nat.le_trans ?_ (Nat.le_add_right _ _)) | with_reducible refine Nat.le_trans ?_ (Nat.le_add_right _ _) | (with_reducible refine bstep ?_ (by assumption)))))).mono ?_
  rintro e w1 ⟨rfl, hb1⟩
  have ha1 : Below w.heap.size w w1 := by (repeat (first | with_reducible exact Below.refl _ _ | with_reducible assumption | with_reducible refine balloc ?_ _ | with_reducible refine bdrew ?_ | with_reducible refine below_drewN ?_ _ | with_reducible refine bset ?_ ?_ _ | with_reducible exact Nat.le_refl _ | with_reducible refine bsize ?_ | (dsimp only; refine Nat.le_trans ?_ (Nat.le_add_right _ _)) | with_reducible refine Nat.le_trans ?_ (Nat.le_add_right _ _) | (with_reducible refine bstep ?_ (by assumption))))
  have R1 := (((RdAt.new w n d (.slice av l.length cv) 34).alloc (.cells #[.int .i64 0, .int .i64 0] 31))).later hb1
  have fr1 := Res8.later (by have h := Res8.new (w.alloc (.cells #[.int .i64 n, .int .i64 d, .slice av l.length cv] 34)) (.int .i64 0) (.int .i64 0) 31; simp only [World.size_alloc] at h; exact h) hb1
  obtain ⟨x0, x1, x2, xz⟩ := id R1
  clear hb1
  go_wp2_with fail
  refine (HI.out _).mono ?_
  rintro e w2 ⟨rfl, rfl⟩
  go_wp2_with fail
  refine (HPl.out _ ha1).mono ?_
  rintro e w3 ⟨v3, rfl, hown3, hb3⟩
  rw [HN0.out] at hown3
  have ha3 := bstep ha1 hb3
  have R3 := R1.later hb3
  have fr3 := fr1.later hb3
  clear x0 x1 x2 xz hb3 R1 fr1 ha1
  obtain ⟨g, c3, rfl, hg1, hg2⟩ := own_form hown3 (by omega)
  have hL1 := liesG_own fAmt_len (by rw [HN0.out]; exact hown3) HB.out
  have hc3 : N ≤ c3 := by have h9 := hL1.hlc; rw [HN0.out] at h9; exact h9
  have HC := Lib.hid (fun (W : World) (hB : Below w3.heap.size w3 W) i (hi : i < m) => (show W.cell? ⟨g, i * 2, none⟩ = some (.int .i64 (atP9 n d l i).1) ∧ W.cell? ⟨g, i * 2 + 1, none⟩ = some (.int .i64 (atP9 n d l i).2) by
    have h0 := cellsG_get fAmt_len _ i _ (HGP2.out i hi) 0 _ rfl
    have h1 := cellsG_get fAmt_len _ i _ (HGP2.out i hi) 1 _ rfl
    rw [Nat.add_zero] at h0
    exact ⟨(hB.cell (p := ⟨g, i * 2, none⟩) hg2).trans ((hown3.cellAt _ (by omega)).trans h0), (hB.cell (p := ⟨g, i * 2 + 1, none⟩) hg2).trans ((hown3.cellAt _ (by omega)).trans h1)⟩))
  go_wp2_with fail
  refine (HF.out _ _ _ hL1).mono ?_
  rintro e w4 ⟨v4, rfl, hown4, hb4⟩
  have ha4 := bstep ha3 hb4
  have R4 := R3.later hb4
  have fr4 := fr3.later hb4
  obtain ⟨gf, cf, rfl, hf1, hf2⟩ := own_form hown4 (by omega)
  have HFX := Lib.hid (fun (W : World) (hB : Below w4.heap.size w4 W) i (hi : i < m) => (show W.cell? ⟨gf, i, none⟩ = some (.int .i64 (fw (plL n d l) i)) by
    exact (hB.cell (p := ⟨gf, i, none⟩) hf2).trans ((hown4.cellAt i (by omega)).trans (cInt_get (HX.out i hi)))))
  clear R3 fr3 ha3 hown4 hL1 hown3
  go_wp2_with fail
  refine (whole_bs _ _).mono ?_
  rintro e w5 ⟨rfl, hb5⟩
  have ha5 := bstep ha4 hb5
  have R5 := Lib.hid (R4.later hb5)
  have fr5 := Lib.hid (fr4.later hb5)
  have hz5 : g < w5.heap.size := by have h1 := hb4.size; have h2 := hb5.size; omega
  have hz6 : gf < w5.heap.size := by have h2 := hb5.size; omega
  have HC5 := Lib.hid (fun (W : World) (hB : Below w5.heap.size w5 W) i (hi : i < m) => HC.out W (bstep (bstep hb4 hb5) hB) i hi)
  have HF5 := Lib.hid (fun (W : World) (hB : Below w5.heap.size w5 W) i (hi : i < m) => HFX.out W (bstep hb5 hB) i hi)
  clear R4 fr4 ha4 HC HFX hb4 hb5 HB HGP2 HX
  have e1 : ((N : Int) - 1) = ((m : Nat) : Int) := by omega
  have e2 : IntKind.i64.wrap ((N : Int) - 1) = ((m : Nat) : Int) := by rw [IntWalk.i64_in _ (by omega)]; exact e1
  have i1 : (0 : Int) ≤ (m : Int) := by omega
  have i2 : (m : Int) ≤ (N : Int) := by omega
  have i3 : m ≤ N := by omega
  have i4 : m ≤ c3 := by omega
  have hH5 : HereAt w5.heap.size (rcF n d l s 0) (w5.alloc (.cells #[.int .i64 0, .int .i64 1] 31)) := by rw [rcF_0]; exact HereAt.new w5 (0, 1) _
  have hB5 : Below w5.heap.size w5 (w5.alloc (.cells #[.int .i64 0, .int .i64 1] 31)) := balloc (Below.refl _ _) _
  go_wp2
  go_loopw [9, 10, 11, 12, 13, 34] (fun s9 s10 s11 s12 s13 ix wr => ∃ j : Nat, j ≤ m ∧ ix = .int .i64 j ∧ HereAt w5.heap.size (rcF n d l s j) wr ∧ Below w5.heap.size w5 wr) (fun _ _ _ _ _ ix _ => m - (intOf ix).toNat)
  case atStart => exact ⟨0, Nat.zero_le _, rfl, hH5, hB5⟩
  case round =>
    clear hH5 hB5
    obtain ⟨j, hj, rfl, hH, hbel⟩ := hrel
    by_cases hjm : j < m
    · obtain ⟨p0, p1⟩ := HC5.out wr hbel j hjm
      have q0 := HF5.out wr hbel j hjm
      have hjI : (j : Int) < (m : Int) := by omega
      have hjN : (j : Int) < (N : Int) := by omega
      have hzg := Nat.lt_of_lt_of_le hz5 hbel.size
      have hzf := Nat.lt_of_lt_of_le hz6 hbel.size
      have hXb := HXB.out j
      have hcX := Lib.hid (fun W => HC9.out j hjm W)
      have wq1 : IntKind.i64.wrap (fw (plL n d l) j + 1) = fw (plL n d l) j + 1 := IntWalk.i64_in _ (by omega)
      have hQ := rcQ_iff (n := n) (d := d) (l := l) (s := s) (i := j)
      rw [ndN] at hQ
      have HY := HQY.out j
      have HNo := HQN.out j
      by_cases hX0 : fw (plL n d l) j < 0
      · have hFn := Lib.hid (HNo (by cases hh : rcQ n d l s j; · rfl
                                     · have := (hQ.1 hh).1; omega))
        clear HY HNo hQ
        generalize fw (plL n d l) j = X at *
        by_cases hj0 : 0 < j
        · have hjp : (0 : Int) < (j : Int) := by omega
          go_wp2
          go_roundw
          case rel => exact ⟨j + 1, by omega, by go_num, by rw [hFn.out]; exact hH.later (balloc (Below.refl _ _) _), balloc hbel _⟩
          case measure => simp [intOf]; omega
        · have hjp : ¬ (0 : Int) < (j : Int) := by omega
          go_wp2
          go_roundw
          case rel => exact ⟨j + 1, by omega, by go_num, by rw [hFn.out]; exact hH.later (balloc (Below.refl _ _) _), balloc hbel _⟩
          case measure => simp [intOf]; omega
      · by_cases hj0 : 0 < j
        · rw [if_pos hj0] at hQ
          have hjp : (0 : Int) < (j : Int) := by omega
          by_cases hf : s < fw (plL n d l) j + 1
          · have hFn := Lib.hid (HNo (by cases hh : rcQ n d l s j; · rfl
                                         · have := (hQ.1 hh).2; omega))
            clear HY HNo hQ
            generalize fw (plL n d l) j = X at *
            go_wp2
            go_roundw
            case rel => exact ⟨j + 1, by omega, by go_num, by rw [hFn.out]; exact hH.later (balloc (Below.refl _ _) _), balloc hbel _⟩
            case measure => simp [intOf]; omega
          · have hFy := Lib.hid (HY (hQ.2 ⟨by omega, by omega⟩))
            clear HY HNo hQ
            generalize fw (plL n d l) j = X at *
            go_upto_region 13 with fail
            obtain ⟨V, hV⟩ : ∃ V, wr.alloc (.cells #[.int .i64 (atP9 n d l j).1, .int .i64 (atP9 n d l j).2] 31) = V := ⟨_, rfl⟩
            have hHV : HereAt (w5.heap.size) (rcF n d l s j) V := by rw [← hV]; exact hH.later (balloc (Below.refl _ _) _)
            have hbV : Below w5.heap.size w5 V := by rw [← hV]; exact balloc hbel _
            have c0 : V.cell? ⟨wr.heap.size, 0, none⟩ = some (.int .i64 (atP9 n d l j).1) := by rw [← hV]; simp [go_sem]
            have c1 : V.cell? ⟨wr.heap.size, 1, none⟩ = some (.int .i64 (atP9 n d l j).2) := by rw [← hV]; simp [go_sem]
            have cz : wr.heap.size < V.heap.size := by rw [← hV]; simp
            rw [hV]
            clear hV p0 p1 q0 hH hbel hcX
            generalize wr.heap.size = PB at *
            have hS1 := Lib.hid (fun (W : World) (hW0 : Below V.heap.size V W) => (⟨hW0, keepa (W0 := V) hW0 cz c0, keepa (W0 := V) hW0 cz c1⟩ : Below V.heap.size V W ∧ W.cell? ⟨PB, 0, none⟩ = some (.int .i64 (atP9 n d l j).1) ∧ W.cell? ⟨PB, 1, none⟩ = some (.int .i64 (atP9 n d l j).2)))
            go_cut [12, 13] (fun s12 s13 wx => ∃ g9 : Nat, s12 = .pointer (some ⟨g9, 0, none⟩) ∧ s13 = .bool true ∧ wx.cell? ⟨g9, 0, none⟩ = some (.int .i64 (upP (atP9 n d l j)).1) ∧ wx.cell? ⟨g9, 1, none⟩ = some (.int .i64 (upP (atP9 n d l j)).2) ∧ g9 < wx.heap.size ∧ Below V.heap.size V wx)
            case first =>
              go_region_held3 (fun W => Below V.heap.size V W ∧ W.cell? ⟨PB, 0, none⟩ = some (.int .i64 (atP9 n d l j).1) ∧ W.cell? ⟨PB, 1, none⟩ = some (.int .i64 (atP9 n d l j).2)) ((refine hS1.out _ ?_; first | with_reducible assumption | ((repeat (first | with_reducible exact Below.refl _ _ | with_reducible assumption | with_reducible refine balloc ?_ _ | with_reducible refine bdrew ?_ | with_reducible refine below_drewN ?_ _ | with_reducible refine bset ?_ ?_ _ | with_reducible exact Nat.le_refl _ | with_reducible refine bsize ?_ | (dsimp only; refine Nat.le_trans ?_ (Nat.le_add_right _ _)) | with_reducible refine Nat.le_trans ?_ (Nat.le_add_right _ _) | (with_reducible refine bstep ?_ (by assumption)))); done))) (first | (go_at_call 43; refine (whole_bs _ _).mono ?_; rintro e w8 ⟨rfl, hb8⟩; (try have fq := Res8.later (by first | with_reducible assumption | with_reducible exact Res8.drew (by with_reducible assumption) | exact Res8.newd _ _ _ _ | exact Res8.new _ _ _ _ | exact Res8.drew (Res8.newd _ _ _ _) | exact Res8.drew (Res8.new _ _ _ _)) hb8); (try (have fq2 := fq; obtain ⟨rx, ry, r1, r2, r3, r4, rz⟩ := fq2)); (have f0 := bstep (by first | with_reducible assumption | ((repeat (first | with_reducible exact Below.refl _ _ | with_reducible assumption | with_reducible refine balloc ?_ _ | with_reducible refine bdrew ?_ | with_reducible refine below_drewN ?_ _ | with_reducible refine bset ?_ ?_ _ | with_reducible exact Nat.le_refl _ | with_reducible refine bsize ?_ | (dsimp only; refine Nat.le_trans ?_ (Nat.le_add_right _ _)) | with_reducible refine Nat.le_trans ?_ (Nat.le_add_right _ _) | (with_reducible refine bstep ?_ (by assumption)))); done) : Below V.heap.size V _) hb8); (have f1 := hS1.out _ f0); go_split_ands) | (go_at_call 44; refine (HA.out j hjm _).mono ?_; rintro e w8 ⟨rfl, hb8⟩; (try have fq := Res8.later (by first | with_reducible assumption | with_reducible exact Res8.drew (by with_reducible assumption) | exact Res8.newd _ _ _ _ | exact Res8.new _ _ _ _ | exact Res8.drew (Res8.newd _ _ _ _) | exact Res8.drew (Res8.new _ _ _ _)) hb8); (try (have fq2 := fq; obtain ⟨rx, ry, r1, r2, r3, r4, rz⟩ := fq2)); (have f0 := bstep (by first | with_reducible assumption | ((repeat (first | with_reducible exact Below.refl _ _ | with_reducible assumption | with_reducible refine balloc ?_ _ | with_reducible refine bdrew ?_ | with_reducible refine below_drewN ?_ _ | with_reducible refine bset ?_ ?_ _ | with_reducible exact Nat.le_refl _ | with_reducible refine bsize ?_ | (dsimp only; refine Nat.le_trans ?_ (Nat.le_add_right _ _)) | with_reducible refine Nat.le_trans ?_ (Nat.le_add_right _ _) | (with_reducible refine bstep ?_ (by assumption)))); done) : Below V.heap.size V _) hb8); (have f1 := hS1.out _ f0); go_split_ands))
              all_goals (go_wp2_with fail; go_meet)
              all_goals refine ⟨_, rfl, rfl, ?_, ?_, ?_, ?_⟩
              all_goals first | ((repeat (first | with_reducible exact Below.refl _ _ | with_reducible assumption | with_reducible refine balloc ?_ _ | with_reducible refine bdrew ?_ | with_reducible refine below_drewN ?_ _ | with_reducible refine bset ?_ ?_ _ | with_reducible exact Nat.le_refl _ | with_reducible refine bsize ?_ | (dsimp only; refine Nat.le_trans ?_ (Nat.le_add_right _ _)) | with_reducible refine Nat.le_trans ?_ (Nat.le_add_right _ _) | (with_reducible refine bstep ?_ (by assumption)))); done) | (simp [go_sem, r1, r2, r3, r4, rz]; done) | (simp [go_sem]; done) | (simp; omega)
            case rest =>
              obtain ⟨g9, rfl, rfl, e1, e2, ez, hgb⟩ := hcut
              have hHc := hHV.later hgb
              have hbc := bstep hbV hgb
              have HCJ := Lib.hid (fun W => HC9.out j hjm W)
              clear hS1 hHV hbV hgb c0 c1 cz HA
              obtain ⟨t0, t1, z0, z1, tz⟩ := id hHc
              go_wp2_with fail
              refine (HCJ.out _).mono ?_
              rintro e w9 ⟨rfl, hb9⟩
              have hH9 := hHc.later hb9
              have hb10 := bstep hbc hb9
              replace e1 := keepa hb9 ez e1
              replace e2 := keepa hb9 ez e2
              clear t0 t1 z0 z1 tz hHc hbc hb9
              obtain ⟨t0, t1, z0, z1, tz⟩ := id hH9
              go_wp2
              go_roundw
              case rel => exact ⟨j + 1, by omega, by go_num, by rw [hFy.out]; exact hH9.put _, bset (bset hb10 (Nat.le_refl _) _) (Nat.le_refl _) _⟩
              case measure => simp [intOf]; omega
        · rw [if_neg hj0] at hQ
          have hjp : ¬ (0 : Int) < (j : Int) := by omega
          by_cases hf : s < fw (plL n d l) j
          · exfalso
            have h0 : j = 0 := by omega
            rw [h0, fw_0] at hf
            omega
          · have hFy := Lib.hid (HY (hQ.2 ⟨by omega, by omega⟩))
            clear HY HNo hQ
            generalize fw (plL n d l) j = X at *
            go_upto_region 13 with fail
            obtain ⟨V, hV⟩ : ∃ V, wr.alloc (.cells #[.int .i64 (atP9 n d l j).1, .int .i64 (atP9 n d l j).2] 31) = V := ⟨_, rfl⟩
            have hHV : HereAt (w5.heap.size) (rcF n d l s j) V := by rw [← hV]; exact hH.later (balloc (Below.refl _ _) _)
            have hbV : Below w5.heap.size w5 V := by rw [← hV]; exact balloc hbel _
            have c0 : V.cell? ⟨wr.heap.size, 0, none⟩ = some (.int .i64 (atP9 n d l j).1) := by rw [← hV]; simp [go_sem]
            have c1 : V.cell? ⟨wr.heap.size, 1, none⟩ = some (.int .i64 (atP9 n d l j).2) := by rw [← hV]; simp [go_sem]
            have cz : wr.heap.size < V.heap.size := by rw [← hV]; simp
            rw [hV]
            clear hV p0 p1 q0 hH hbel hcX
            generalize wr.heap.size = PB at *
            have hS1 := Lib.hid (fun (W : World) (hW0 : Below V.heap.size V W) => (⟨hW0, keepa (W0 := V) hW0 cz c0, keepa (W0 := V) hW0 cz c1⟩ : Below V.heap.size V W ∧ W.cell? ⟨PB, 0, none⟩ = some (.int .i64 (atP9 n d l j).1) ∧ W.cell? ⟨PB, 1, none⟩ = some (.int .i64 (atP9 n d l j).2)))
            go_cut [12, 13] (fun s12 s13 wx => ∃ g9 : Nat, s12 = .pointer (some ⟨g9, 0, none⟩) ∧ s13 = .bool true ∧ wx.cell? ⟨g9, 0, none⟩ = some (.int .i64 (upP (atP9 n d l j)).1) ∧ wx.cell? ⟨g9, 1, none⟩ = some (.int .i64 (upP (atP9 n d l j)).2) ∧ g9 < wx.heap.size ∧ Below V.heap.size V wx)
            case first =>
              go_region_held3 (fun W => Below V.heap.size V W ∧ W.cell? ⟨PB, 0, none⟩ = some (.int .i64 (atP9 n d l j).1) ∧ W.cell? ⟨PB, 1, none⟩ = some (.int .i64 (atP9 n d l j).2)) ((refine hS1.out _ ?_; first | with_reducible assumption | ((repeat (first | with_reducible exact Below.refl _ _ | with_reducible assumption | with_reducible refine balloc ?_ _ | with_reducible refine bdrew ?_ | with_reducible refine below_drewN ?_ _ | with_reducible refine bset ?_ ?_ _ | with_reducible exact Nat.le_refl _ | with_reducible refine bsize ?_ | (dsimp only; refine Nat.le_trans ?_ (Nat.le_add_right _ _)) | with_reducible refine Nat.le_trans ?_ (Nat.le_add_right _ _) | (with_reducible refine bstep ?_ (by assumption)))); done))) (first | (go_at_call 43; refine (whole_bs _ _).mono ?_; rintro e w8 ⟨rfl, hb8⟩; (try have fq := Res8.later (by first | with_reducible assumption | with_reducible exact Res8.drew (by with_reducible assumption) | exact Res8.newd _ _ _ _ | exact Res8.new _ _ _ _ | exact Res8.drew (Res8.newd _ _ _ _) | exact Res8.drew (Res8.new _ _ _ _)) hb8); (try (have fq2 := fq; obtain ⟨rx, ry, r1, r2, r3, r4, rz⟩ := fq2)); (have f0 := bstep (by first | with_reducible assumption | ((repeat (first | with_reducible exact Below.refl _ _ | with_reducible assumption | with_reducible refine balloc ?_ _ | with_reducible refine bdrew ?_ | with_reducible refine below_drewN ?_ _ | with_reducible refine bset ?_ ?_ _ | with_reducible exact Nat.le_refl _ | with_reducible refine bsize ?_ | (dsimp only; refine Nat.le_trans ?_ (Nat.le_add_right _ _)) | with_reducible refine Nat.le_trans ?_ (Nat.le_add_right _ _) | (with_reducible refine bstep ?_ (by assumption)))); done) : Below V.heap.size V _) hb8); (have f1 := hS1.out _ f0); go_split_ands) | (go_at_call 44; refine (HA.out j hjm _).mono ?_; rintro e w8 ⟨rfl, hb8⟩; (try have fq := Res8.later (by first | with_reducible assumption | with_reducible exact Res8.drew (by with_reducible assumption) | exact Res8.newd _ _ _ _ | exact Res8.new _ _ _ _ | exact Res8.drew (Res8.newd _ _ _ _) | exact Res8.drew (Res8.new _ _ _ _)) hb8); (try (have fq2 := fq; obtain ⟨rx, ry, r1, r2, r3, r4, rz⟩ := fq2)); (have f0 := bstep (by first | with_reducible assumption | ((repeat (first | with_reducible exact Below.refl _ _ | with_reducible assumption | with_reducible refine balloc ?_ _ | with_reducible refine bdrew ?_ | with_reducible refine below_drewN ?_ _ | with_reducible refine bset ?_ ?_ _ | with_reducible exact Nat.le_refl _ | with_reducible refine bsize ?_ | (dsimp only; refine Nat.le_trans ?_ (Nat.le_add_right _ _)) | with_reducible refine Nat.le_trans ?_ (Nat.le_add_right _ _) | (with_reducible refine bstep ?_ (by assumption)))); done) : Below V.heap.size V _) hb8); (have f1 := hS1.out _ f0); go_split_ands))
              all_goals (go_wp2_with fail; go_meet)
              all_goals refine ⟨_, rfl, rfl, ?_, ?_, ?_, ?_⟩
              all_goals first | ((repeat (first | with_reducible exact Below.refl _ _ | with_reducible assumption | with_reducible refine balloc ?_ _ | with_reducible refine bdrew ?_ | with_reducible refine below_drewN ?_ _ | with_reducible refine bset ?_ ?_ _ | with_reducible exact Nat.le_refl _ | with_reducible refine bsize ?_ | (dsimp only; refine Nat.le_trans ?_ (Nat.le_add_right _ _)) | with_reducible refine Nat.le_trans ?_ (Nat.le_add_right _ _) | (with_reducible refine bstep ?_ (by assumption)))); done) | (simp [go_sem, r1, r2, r3, r4, rz]; done) | (simp [go_sem]; done) | (simp; omega)
            case rest =>
              obtain ⟨g9, rfl, rfl, e1, e2, ez, hgb⟩ := hcut
              have hHc := hHV.later hgb
              have hbc := bstep hbV hgb
              have HCJ := Lib.hid (fun W => HC9.out j hjm W)
              clear hS1 hHV hbV hgb c0 c1 cz HA
              obtain ⟨t0, t1, z0, z1, tz⟩ := id hHc
              go_wp2_with fail
              refine (HCJ.out _).mono ?_
              rintro e w9 ⟨rfl, hb9⟩
              have hH9 := hHc.later hb9
              have hb10 := bstep hbc hb9
              replace e1 := keepa hb9 ez e1
              replace e2 := keepa hb9 ez e2
              clear t0 t1 z0 z1 tz hHc hbc hb9
              obtain ⟨t0, t1, z0, z1, tz⟩ := id hH9
              go_wp2
              go_roundw
              case rel => exact ⟨j + 1, by omega, by go_num, by rw [hFy.out]; exact hH9.put _, bset (bset hb10 (Nat.le_refl _) _) (Nat.le_refl _) _⟩
              case measure => simp [intOf]; omega
    · have hje : j = m := by omega
      subst hje
      have R6 := R5.out.later hbel
      have fr6 := fr5.out.later hbel
      have ha6 := bstep ha5 hbel
      obtain ⟨x0, x1, x2, xz⟩ := id R6
      obtain ⟨t0, t1, z0, z1, tz⟩ := id hH
      have hzw : w.heap.size + 1 < w5.heap.size := by obtain ⟨_, _, _, _, _, _, h⟩ := fr5.out; exact h
      clear HQY HQN HC9 HA HC5 HF5
      generalize rcF n d l s j = F at *
      by_cases hc : 0 < F.1 * d - n * F.2
      · have hZe : Z = (n, d) := by rw [HZ.out, if_pos hc]
        rw [sg_one hc] at HCE
        subst hZe
        clear hc HZ
        go_wp2_with fail
        refine (HCE.out _).mono ?_
        rintro e w6 ⟨rfl, hb6⟩
        have ha7 := bstep ha6 hb6
        have R7 := R6.later hb6
        have fr7 := fr6.later hb6
        have hH7 := hH.later hb6
        clear x0 x1 x2 xz t0 t1 z0 z1 tz R6 fr6 hH ha6 hb6
        obtain ⟨x0, x1, x2, xz⟩ := id R7
        obtain ⟨t0, t1, z0, z1, tz⟩ := id hH7
        obtain ⟨rx, ry, r0, r1, rz0, rz1, rz⟩ := fr7
        have hne : ¬ w.heap.size + 1 = w5.heap.size := by omega
        have hne2 : ¬ w5.heap.size = w.heap.size + 1 := by omega
        have hle5 : w.heap.size ≤ w5.heap.size := by omega
        go_wp2
        refine bodyPost_ret (v := .tuple #[.agg #[.int .i64 n, .int .i64 d], .bool true]) (by simp only [results, Try.results18]; go_simp) rfl ?_
        exact ⟨rfl, by (repeat (first | with_reducible exact Below.refl _ _ | with_reducible assumption | with_reducible refine balloc ?_ _ | with_reducible refine bdrew ?_ | with_reducible refine below_drewN ?_ _ | with_reducible refine bset ?_ ?_ _ | with_reducible exact Nat.le_refl _ | with_reducible refine bsize ?_ | (dsimp only; refine Nat.le_trans ?_ (Nat.le_add_right _ _)) | with_reducible refine Nat.le_trans ?_ (Nat.le_add_right _ _) | (with_reducible refine bstep ?_ (by assumption))))⟩
      · have hZe : Z = F := by rw [HZ.out, if_neg hc]
        have hsg := sg_not hc
        generalize sgI (F.1 * d - n * F.2) = G at *
        subst hZe
        clear hc HZ
        go_wp2_with fail
        refine (HCE.out _).mono ?_
        rintro e w6 ⟨rfl, hb6⟩
        have ha7 := bstep ha6 hb6
        have fr7 := fr6.later hb6
        have hH7 := hH.later hb6
        clear x0 x1 x2 xz t0 t1 z0 z1 tz R6 fr6 hH ha6 hb6
        obtain ⟨t0, t1, z0, z1, tz⟩ := id hH7
        obtain ⟨rx, ry, r0, r1, rz0, rz1, rz⟩ := fr7
        go_wp2
        refine bodyPost_ret (v := .tuple #[.agg #[.int .i64 Z.1, .int .i64 Z.2], .bool true]) (by simp only [results, Try.results18]; go_simp) rfl ?_
        exact ⟨rfl, by (repeat (first | with_reducible exact Below.refl _ _ | with_reducible assumption | with_reducible refine balloc ?_ _ | with_reducible refine bdrew ?_ | with_reducible refine below_drewN ?_ _ | with_reducible refine bset ?_ ?_ _ | with_reducible exact Nat.le_refl _ | with_reducible refine bsize ?_ | (dsimp only; refine Nat.le_trans ?_ (Nat.le_add_right _ _)) | with_reducible refine Nat.le_trans ?_ (Nat.le_add_right _ _) | (with_reducible refine bstep ?_ (by assumption))))⟩
end Go.Proofs.Ytngoibohkckgpaa
