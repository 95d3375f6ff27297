/- Roads: CanGo on both sides; the law. -/
import Derived.Test.YtmdeaphffnolhaaRoadR
import Derived.Test.YtmdeaphffnolhaaRoadL
import Derived.Deep.RegionHeld3
import Derived.Deep.DeepCutAuto
namespace Go.Proofs.Ytmdeaphffnolhaa
open Go.ChangeShapes Go.WideShapes Go.ChangeAt Go.RowKit Go.Joins
set_option maxRecDepth 100000
set_option linter.unusedVariables false
set_option linter.unusedSimpArgs false


def cgB (n d : Int) (l : List (Int × Int)) : Bool := rdB n d l && decide ((lgO n d l).1 ≤ (lgO n d l).2)
theorem plL_am {n d : Int} {l : List (Int × Int)} (h : rdB n d l = true) : ∀ p ∈ plL n d l, amB p.1 p.2 = true := by
  obtain ⟨hw, h16, hlr⟩ := rdB_1 h
  intro p hp
  simp only [plL, endL, List.mem_cons, List.mem_append, List.mem_singleton, List.not_mem_nil, or_false] at hp
  rcases hp with rfl | hp | rfl
  · exact am01
  · exact rp_am (hlr p hp)
  · exact rp_am hw
theorem am_bd {P : List (Int × Int)} (h : ∀ p ∈ P, amB p.1 p.2 = true) : ∀ p ∈ P, ∀ y ∈ fAmt p, -9223372036854775808 ≤ y ∧ y ≤ 9223372036854775807 := by
  intro p hp y hy
  have ha := am_of _ _ (h p hp)
  have q1 := ha.a
  have q2 := ha.b
  have q3 := ha.c
  have q4 := ha.d
  simp [fAmt] at hy
  omega
set_option maxHeartbeats 3200000 in
theorem weEnd_spec (n d : Int) (v : Value) (l : List (Int × Int)) (w : World) (h : RowG 2 fAmt w v l) (hrd : rdB n d l = true) :
    Calls Try.prog 51 #[.agg #[.int .i64 n, .int .i64 d, v]] w fun e w' => e = .returned (.int .i64 (fw (plL n d l) (l.length + 1))) ∧ Below w.heap.size w w' := by
  obtain ⟨hw, h16, hlr⟩ := rdB_1 hrd
  have HPl := Lib.hid (fun W (hB : Below w.heap.size w W) => places_spec n d v l W (rowG_below h hB) (by omega))
  have hPlen := plL_len n d l
  have hall := plL_am hrd
  have HB := Lib.hid (am_bd hall)
  have HF := Lib.hid (fun a cap W hL => few_spec a cap (plL n d l) hall (by omega) (by omega) W hL)
  have hlast : (fwF (plL n d l) (plL n d l).length)[l.length + 1]? = some (fw (plL n d l) (l.length + 1)) := by
    have h1 := fwF_fw (P := plL n d l) (show l.length + 1 < (plL n d l).length by omega)
    rw [List.getD_eq_getElem?_getD] at h1
    rw [List.getElem?_eq_getElem (by rw [fwF_len]; omega)] at h1 ⊢
    simp at h1
    rw [h1]
  have hlast := Lib.hid (cInt_get hlast)
  have hbd := fw_bd (plL n d l) (l.length + 1)
  have hP0 : 0 < (plL n d l).length := by omega
  have hPm : (plL n d l).length - 1 = l.length + 1 := by omega
  have hP18 : (plL n d l).length ≤ 18 := by omega
  clear h hrd hw hlr hall hPlen
  generalize fw (plL n d l) (l.length + 1) = X at *
  generalize fwF (plL n d l) (plL n d l).length = Y at *
  generalize plL n d l = P at *
  generalize l.length + 1 = m at *
  go_enter Try.func51, Try.ntmps51
  go_wp2_with fail
  refine (HPl.out _ (by (repeat (first | with_reducible exact Below.refl _ _ | with_reducible assumption | with_reducible refine balloc ?_ _ | with_reducible refine bdrew ?_ | with_reducible refine below_drewN ?_ _ | with_reducible refine bset ?_ ?_ _ | with_reducible exact Nat.le_refl _ | with_reducible refine bsize ?_ | (dsimp only; refine Nat.le_trans ?_ (Nat.le_add_right _ _)) | with_reducible refine Nat.le_trans ?_ (Nat.le_add_right _ _) | (with_reducible refine bstep ?_ (by assumption)))))).mono ?_
  rintro e w1 ⟨v1, rfl, hown1, hb1⟩
  have ha1 : Below w.heap.size w w1 := by (repeat (first | with_reducible exact Below.refl _ _ | with_reducible assumption | with_reducible refine balloc ?_ _ | with_reducible refine bdrew ?_ | with_reducible refine below_drewN ?_ _ | with_reducible refine bset ?_ ?_ _ | with_reducible exact Nat.le_refl _ | with_reducible refine bsize ?_ | (dsimp only; refine Nat.le_trans ?_ (Nat.le_add_right _ _)) | with_reducible refine Nat.le_trans ?_ (Nat.le_add_right _ _) | (with_reducible refine bstep ?_ (by assumption))))
  obtain ⟨gq, cq, rfl, _, _⟩ := own_form hown1 hP0
  have hL1 := liesG_own fAmt_len hown1 HB.out
  clear hown1 hb1 HPl
  go_wp2_with fail
  refine (HF.out _ _ _ hL1).mono ?_
  rintro e w2 ⟨v2, rfl, hown2, hb2⟩
  have ha2 := bstep ha1 hb2
  obtain ⟨gf, cf, rfl, _, _⟩ := own_form hown2 hP0
  have hc : w2.cell? ⟨gf, m, none⟩ = some (.int .i64 X) := by
    rw [hown2.cellAt m (by omega)]; exact hlast.out
  clear hown2 hL1 hb2 HF hlast
  have e1 : ((P.length : Int) - 1) = ((m : Nat) : Int) := by omega
  have e2 : IntKind.i64.wrap ((P.length : Int) - 1) = ((m : Nat) : Int) := by rw [IntWalk.i64_in _ (by omega)]; exact e1
  have i1 : (0 : Int) ≤ (m : Int) := by omega
  have i2 : (m : Int) < (P.length : Int) := by omega
  rw [← hPm] at hc e1 e2
  clear hPm
  go_wp2
  go_ret
  exact ⟨rfl, ha2⟩
set_option maxHeartbeats 1600000 in
theorem canGo_spec (n d : Int) (bn : -9223372036854775808 ≤ n ∧ n ≤ 9223372036854775807) (bd : -9223372036854775808 ≤ d ∧ d ≤ 9223372036854775807) (v : Value) (l : List (Int × Int)) (w : World) (h : RowG 2 fAmt w v l) :
    Calls Try.prog 18 #[.agg #[.int .i64 n, .int .i64 d, v]] w fun e w' => e = .returned (.tuple #[.bool (cgB n d l), .bool (rdB n d l)]) ∧ Below w.heap.size w w' := by
  have HR := Lib.hid (fun W (hB : Below w.heap.size w W) => weGood_spec n d bn bd v l W (rowG_below h hB))
  unfold cgB
  cases hr : rdB n d l
  · rw [hr] at HR
    simp only [Bool.false_and]
    clear h hr
    go_enter Try.func18, Try.ntmps18
    go_wp2_with fail
    refine (HR.out _ (by (repeat (first | with_reducible exact Below.refl _ _ | with_reducible assumption | with_reducible refine balloc ?_ _ | with_reducible refine bdrew ?_ | with_reducible refine below_drewN ?_ _ | with_reducible refine bset ?_ ?_ _ | with_reducible exact Nat.le_refl _ | with_reducible refine bsize ?_ | (dsimp only; refine Nat.le_trans ?_ (Nat.le_add_right _ _)) | with_reducible refine Nat.le_trans ?_ (Nat.le_add_right _ _) | (with_reducible refine bstep ?_ (by assumption)))))).mono ?_
    rintro e w1 ⟨rfl, hb1⟩
    go_wp2
    refine bodyPost_ret (v := .tuple #[.bool false, .bool false]) (by simp only [results, Try.results18]; go_simp) rfl ⟨rfl, ?_⟩
    (repeat (first | with_reducible exact Below.refl _ _ | with_reducible assumption | with_reducible refine balloc ?_ _ | with_reducible refine bdrew ?_ | with_reducible refine below_drewN ?_ _ | with_reducible refine bset ?_ ?_ _ | with_reducible exact Nat.le_refl _ | with_reducible refine bsize ?_ | (dsimp only; refine Nat.le_trans ?_ (Nat.le_add_right _ _)) | with_reducible refine Nat.le_trans ?_ (Nat.le_add_right _ _) | (with_reducible refine bstep ?_ (by assumption))))
  · have HE := Lib.hid (fun W (hB : Below w.heap.size w W) => weEnd_spec n d v l W (rowG_below h hB) hr)
    have hgo := go_iff hr
    rw [hr] at HR
    simp only [Bool.true_and]
    clear h hr
    have hdec : decide ((lgO n d l).1 ≤ (lgO n d l).2) = decide (0 ≤ fw (plL n d l) (l.length + 1)) := by
      rw [decide_eq_decide]; exact hgo.symm
    rw [hdec]
    clear hgo hdec
    generalize fw (plL n d l) (l.length + 1) = X at *
    go_enter Try.func18, Try.ntmps18
    go_wp2_with fail
    refine (HR.out _ (by (repeat (first | with_reducible exact Below.refl _ _ | with_reducible assumption | with_reducible refine balloc ?_ _ | with_reducible refine bdrew ?_ | with_reducible refine below_drewN ?_ _ | with_reducible refine bset ?_ ?_ _ | with_reducible exact Nat.le_refl _ | with_reducible refine bsize ?_ | (dsimp only; refine Nat.le_trans ?_ (Nat.le_add_right _ _)) | with_reducible refine Nat.le_trans ?_ (Nat.le_add_right _ _) | (with_reducible refine bstep ?_ (by assumption)))))).mono ?_
    rintro e w1 ⟨rfl, hb1⟩
    have A1 : RdAt w.heap.size n d v w1 := (RdAt.new w n d v 32).later hb1
    obtain ⟨x0, x1, x2, xz⟩ := A1
    have ha1 : Below w.heap.size w w1 := by (repeat (first | with_reducible exact Below.refl _ _ | with_reducible assumption | with_reducible refine balloc ?_ _ | with_reducible refine bdrew ?_ | with_reducible refine below_drewN ?_ _ | with_reducible refine bset ?_ ?_ _ | with_reducible exact Nat.le_refl _ | with_reducible refine bsize ?_ | (dsimp only; refine Nat.le_trans ?_ (Nat.le_add_right _ _)) | with_reducible refine Nat.le_trans ?_ (Nat.le_add_right _ _) | (with_reducible refine bstep ?_ (by assumption))))
    go_wp2_with fail
    refine (HE.out _ ha1).mono ?_
    rintro e w2 ⟨rfl, hb2⟩
    have ha2 := bstep ha1 hb2
    go_wp2
    refine bodyPost_ret (v := .tuple #[.bool (decide (0 ≤ X)), .bool true]) (by simp only [results, Try.results18]; go_simp) rfl ⟨rfl, ?_⟩
    exact ha2
theorem fits_impl (x y : Int) (w : World) :
    Calls Try.prog 52 #[.agg #[.int .i64 x, .int .i64 y]] w fun e w' => e = .returned (.bool (decide (x ≤ y))) ∧ Below w.heap.size w w' := by
  go_enter Try.func52, Try.ntmps52
  go_wp2
  go_ret
  refine ⟨rfl, ?_⟩
  (repeat (first | with_reducible exact Below.refl _ _ | with_reducible assumption | with_reducible refine balloc ?_ _ | with_reducible refine bdrew ?_ | with_reducible refine below_drewN ?_ _ | with_reducible refine bset ?_ ?_ _ | with_reducible exact Nat.le_refl _ | with_reducible refine bsize ?_ | (dsimp only; refine Nat.le_trans ?_ (Nat.le_add_right _ _)) | with_reducible refine Nat.le_trans ?_ (Nat.le_add_right _ _) | (with_reducible refine bstep ?_ (by assumption))))
set_option maxHeartbeats 1600000 in
theorem canGo_impl (n d : Int) (bn : -9223372036854775808 ≤ n ∧ n ≤ 9223372036854775807) (bd : -9223372036854775808 ≤ d ∧ d ≤ 9223372036854775807) (v : Value) (l : List (Int × Int)) (w : World) (h : RowG 2 fAmt w v l) :
    Calls Try.prog 19 #[.agg #[.int .i64 n, .int .i64 d, v]] w fun e w' => e = .returned (.tuple #[.bool (cgB n d l), .bool (rdB n d l)]) ∧ Below w.heap.size w w' := by
  have HR := Lib.hid (fun W (hB : Below w.heap.size w W) => longest_impl n d bn bd v l W (rowG_below h hB))
  unfold cgB
  clear h
  generalize lgO n d l = g at *
  obtain ⟨x, y⟩ := g
  simp only at HR ⊢
  cases hr : rdB n d l
  · rw [hr] at HR
    simp only [Bool.false_and]
    clear hr
    go_enter Try.func19, Try.ntmps19
    go_wp2_with fail
    refine (HR.out _ (by (repeat (first | with_reducible exact Below.refl _ _ | with_reducible assumption | with_reducible refine balloc ?_ _ | with_reducible refine bdrew ?_ | with_reducible refine below_drewN ?_ _ | with_reducible refine bset ?_ ?_ _ | with_reducible exact Nat.le_refl _ | with_reducible refine bsize ?_ | (dsimp only; refine Nat.le_trans ?_ (Nat.le_add_right _ _)) | with_reducible refine Nat.le_trans ?_ (Nat.le_add_right _ _) | (with_reducible refine bstep ?_ (by assumption)))))).mono ?_
    rintro e w1 ⟨rfl, hb1⟩
    go_wp2
    refine bodyPost_ret (v := .tuple #[.bool false, .bool false]) (by simp only [results, Try.results19]; go_simp) rfl ⟨rfl, ?_⟩
    (repeat (first | with_reducible exact Below.refl _ _ | with_reducible assumption | with_reducible refine balloc ?_ _ | with_reducible refine bdrew ?_ | with_reducible refine below_drewN ?_ _ | with_reducible refine bset ?_ ?_ _ | with_reducible exact Nat.le_refl _ | with_reducible refine bsize ?_ | (dsimp only; refine Nat.le_trans ?_ (Nat.le_add_right _ _)) | with_reducible refine Nat.le_trans ?_ (Nat.le_add_right _ _) | (with_reducible refine bstep ?_ (by assumption))))
  · rw [hr] at HR
    simp only [Bool.true_and]
    clear hr
    have HF := Lib.hid (fun W => fits_impl x y W)
    go_enter Try.func19, Try.ntmps19
    go_wp2_with fail
    refine (HR.out _ (by (repeat (first | with_reducible exact Below.refl _ _ | with_reducible assumption | with_reducible refine balloc ?_ _ | with_reducible refine bdrew ?_ | with_reducible refine below_drewN ?_ _ | with_reducible refine bset ?_ ?_ _ | with_reducible exact Nat.le_refl _ | with_reducible refine bsize ?_ | (dsimp only; refine Nat.le_trans ?_ (Nat.le_add_right _ _)) | with_reducible refine Nat.le_trans ?_ (Nat.le_add_right _ _) | (with_reducible refine bstep ?_ (by assumption)))))).mono ?_
    rintro e w1 ⟨rfl, hb1⟩
    have ha1 : Below w.heap.size w w1 := by (repeat (first | with_reducible exact Below.refl _ _ | with_reducible assumption | with_reducible refine balloc ?_ _ | with_reducible refine bdrew ?_ | with_reducible refine below_drewN ?_ _ | with_reducible refine bset ?_ ?_ _ | with_reducible exact Nat.le_refl _ | with_reducible refine bsize ?_ | (dsimp only; refine Nat.le_trans ?_ (Nat.le_add_right _ _)) | with_reducible refine Nat.le_trans ?_ (Nat.le_add_right _ _) | (with_reducible refine bstep ?_ (by assumption))))
    go_wp2_with fail
    refine (HF.out _).mono ?_
    rintro e w2 ⟨rfl, hb2⟩
    go_wp2
    refine bodyPost_ret (v := .tuple #[.bool (decide (x ≤ y)), .bool true]) (by simp only [results, Try.results19]; go_simp) rfl ⟨rfl, ?_⟩
    (repeat (first | with_reducible exact Below.refl _ _ | with_reducible assumption | with_reducible refine balloc ?_ _ | with_reducible refine bdrew ?_ | with_reducible refine below_drewN ?_ _ | with_reducible refine bset ?_ ?_ _ | with_reducible exact Nat.le_refl _ | with_reducible refine bsize ?_ | (dsimp only; refine Nat.le_trans ?_ (Nat.le_add_right _ _)) | with_reducible refine Nat.le_trans ?_ (Nat.le_add_right _ _) | (with_reducible refine bstep ?_ (by assumption))))
end Go.Proofs.Ytmdeaphffnolhaa
