/- Roads: LongestGap of the program; the places of the model. -/
import Derived.Test.YtngoibohkckgpaaRoadI
import Derived.Deep.RegionHeld3
import Derived.Deep.DeepCutAuto
namespace Go.Proofs.Ytngoibohkckgpaa
open Go.ChangeShapes Go.WideShapes Go.ChangeAt Go.RowKit Go.Joins
set_option maxRecDepth 100000
set_option linter.unusedVariables false
set_option linter.unusedSimpArgs false


theorem lgO_no {n d : Int} {l : List (Int × Int)} (h : rdB n d l = false) : lgO n d l = (0, 0) := by simp [lgO, h]
theorem lgO_yes {n d : Int} {l : List (Int × Int)} (h : rdB n d l = true) : lgO n d l = lgF (gapL n d l) (0, 1) := by simp [lgO, h]
theorem gapL_cons {n d : Int} {l : List (Int × Int)} : ∃ g t, gapL n d l = g :: t := by
  have h : (gapL n d l).length = l.length + 1 := by rw [gapL, gpL_len]; simp [endL]
  cases hg : gapL n d l with
  | nil => rw [hg] at h; simp at h
  | cons g t => exact ⟨g, t, rfl⟩
set_option maxHeartbeats 3200000 in
theorem longest_impl (n d : Int) (bn : -9223372036854775808 ≤ n ∧ n ≤ 9223372036854775807) (bd : -9223372036854775808 ≤ d ∧ d ≤ 9223372036854775807) (v : Value) (l : List (Int × Int)) (w : World) (h : RowG 2 fAmt w v l) :
    Calls Try.prog 62 #[.agg #[.int .i64 n, .int .i64 d, v]] w fun e w' => e = .returned (.tuple #[.agg #[.int .i64 (lgO n d l).1, .int .i64 (lgO n d l).2], .bool (rdB n d l)]) ∧ Below w.heap.size w w' := by
  have HR := Lib.hid (fun W (hB : Below w.heap.size w W) => isRoad_impl n d bn bd v l W (rowG_below h hB))
  cases hr : rdB n d l
  · rw [lgO_no hr]
    rw [hr] at HR
    clear h hr
    go_enter Try.func62, Try.ntmps62
    go_wp2_with fail
    refine (HR.out _ (by (repeat (first | with_reducible exact Below.refl _ _ | with_reducible assumption | with_reducible refine balloc ?_ _ | with_reducible refine bdrew ?_ | with_reducible refine below_drewN ?_ _ | with_reducible refine bset ?_ ?_ _ | with_reducible exact Nat.le_refl _ | with_reducible refine bsize ?_ | (dsimp only; refine Nat.le_trans ?_ (Nat.le_add_right _ _)) | with_reducible refine Nat.le_trans ?_ (Nat.le_add_right _ _) | (with_reducible refine bstep ?_ (by assumption)))))).mono ?_
    rintro e w1 ⟨rfl, hb1⟩
    have q0 : w1.cell? ⟨w.heap.size + 1, 0, none⟩ = some (.int .i64 0) := (hb1.cell (p := ⟨w.heap.size + 1, 0, none⟩) (by simp)).trans (by simp [go_sem])
    have q1 : w1.cell? ⟨w.heap.size + 1, 1, none⟩ = some (.int .i64 0) := (hb1.cell (p := ⟨w.heap.size + 1, 1, none⟩) (by simp)).trans (by simp [go_sem])
    have q2 : w1.frozen? ⟨w.heap.size + 1, 0, none⟩ = false := (hb1.frozen (p := ⟨w.heap.size + 1, 0, none⟩) (by simp)).trans (by simp [go_sem])
    have q3 : w1.frozen? ⟨w.heap.size + 1, 1, none⟩ = false := (hb1.frozen (p := ⟨w.heap.size + 1, 1, none⟩) (by simp)).trans (by simp [go_sem])
    go_wp2
    refine bodyPost_ret (v := .tuple #[.agg #[.int .i64 0, .int .i64 0], .bool false]) (by simp only [results, Try.results62]; go_simp) rfl ⟨rfl, ?_⟩
    (repeat (first | with_reducible exact Below.refl _ _ | with_reducible assumption | with_reducible refine balloc ?_ _ | with_reducible refine bdrew ?_ | with_reducible refine below_drewN ?_ _ | with_reducible refine bset ?_ ?_ _ | with_reducible exact Nat.le_refl _ | with_reducible refine bsize ?_ | (dsimp only; refine Nat.le_trans ?_ (Nat.le_add_right _ _)) | with_reducible refine Nat.le_trans ?_ (Nat.le_add_right _ _) | (with_reducible refine bstep ?_ (by assumption))))
  · have HG := Lib.hid (fun W (hB : Below w.heap.size w W) => gaps_impl n d bn bd v l W (rowG_below h hB) hr)
    have hall := gapL_am hr
    rw [hr] at HR
    rw [lgO_yes hr]
    obtain ⟨g, t, hg⟩ := gapL_cons (n := n) (d := d) (l := l)
    rw [hg] at HG hall ⊢
    have e0 : lgF (g :: t) (0, 1) = lgF t g := by
      show lgF t (mxP (0, 1) g) = _
      rw [mx_first (hall g (List.mem_cons_self ..))]
    rw [e0]
    clear e0 h hr hg
    have hbd : ∀ p ∈ g :: t, ∀ y ∈ fAmt p, -9223372036854775808 ≤ y ∧ y ≤ 9223372036854775807 := by
      intro p hp y hy
      have ha := am_of _ _ (hall p hp)
      have q1 := ha.a
      have q2 := ha.b
      have q3 := ha.c
      have q4 := ha.d
      simp [fAmt] at hy
      omega
    have HM := Lib.hid (fun a cap W hL => maxFunc_impl a cap g t W hL hall)
    have HB := Lib.hid hbd
    clear hbd hall
    obtain ⟨R, hR⟩ : ∃ R, lgF t g = R := ⟨_, rfl⟩
    rw [hR] at HM ⊢
    clear hR
    obtain ⟨G, hG⟩ : ∃ G, g :: t = G := ⟨_, rfl⟩
    have hG0 : 0 < G.length := by rw [← hG]; simp
    rw [hG] at HG HM HB
    clear hG
    obtain ⟨x, y⟩ := R
    simp only at HM ⊢
    go_enter Try.func62, Try.ntmps62
    go_wp2_with fail
    refine (HR.out _ (by (repeat (first | with_reducible exact Below.refl _ _ | with_reducible assumption | with_reducible refine balloc ?_ _ | with_reducible refine bdrew ?_ | with_reducible refine below_drewN ?_ _ | with_reducible refine bset ?_ ?_ _ | with_reducible exact Nat.le_refl _ | with_reducible refine bsize ?_ | (dsimp only; refine Nat.le_trans ?_ (Nat.le_add_right _ _)) | with_reducible refine Nat.le_trans ?_ (Nat.le_add_right _ _) | (with_reducible refine bstep ?_ (by assumption)))))).mono ?_
    rintro e w1 ⟨rfl, hb1⟩
    have A1 : RdAt w.heap.size n d v w1 := ((RdAt.new w n d v 34).alloc _).later hb1
    have ha1 : Below w.heap.size w w1 := by (repeat (first | with_reducible exact Below.refl _ _ | with_reducible assumption | with_reducible refine balloc ?_ _ | with_reducible refine bdrew ?_ | with_reducible refine below_drewN ?_ _ | with_reducible refine bset ?_ ?_ _ | with_reducible exact Nat.le_refl _ | with_reducible refine bsize ?_ | (dsimp only; refine Nat.le_trans ?_ (Nat.le_add_right _ _)) | with_reducible refine Nat.le_trans ?_ (Nat.le_add_right _ _) | (with_reducible refine bstep ?_ (by assumption))))
    have q0 : w1.cell? ⟨w.heap.size + 1, 0, none⟩ = some (.int .i64 0) := (hb1.cell (p := ⟨w.heap.size + 1, 0, none⟩) (by simp)).trans (by simp [go_sem])
    have q1 : w1.cell? ⟨w.heap.size + 1, 1, none⟩ = some (.int .i64 0) := (hb1.cell (p := ⟨w.heap.size + 1, 1, none⟩) (by simp)).trans (by simp [go_sem])
    have q2 : w1.frozen? ⟨w.heap.size + 1, 0, none⟩ = false := (hb1.frozen (p := ⟨w.heap.size + 1, 0, none⟩) (by simp)).trans (by simp [go_sem])
    have q3 : w1.frozen? ⟨w.heap.size + 1, 1, none⟩ = false := (hb1.frozen (p := ⟨w.heap.size + 1, 1, none⟩) (by simp)).trans (by simp [go_sem])
    have qz : w.heap.size + 1 < w1.heap.size := Nat.lt_of_lt_of_le (by simp) hb1.size
    obtain ⟨x0, x1, x2, xz⟩ := A1
    clear hb1 HR
    go_wp2_with fail
    refine (HG.out _ ha1).mono ?_
    rintro e w2 ⟨v2, rfl, hown2, hb2⟩
    replace q0 := keepa hb2 qz q0
    replace q1 := keepa hb2 qz q1
    replace q2 := keepf hb2 qz q2
    replace q3 := keepf hb2 qz q3
    replace qz := Nat.lt_of_lt_of_le qz hb2.size
    have ha2 := bstep ha1 hb2
    obtain ⟨gq, cq, rfl, _, _⟩ := own_form hown2 hG0
    have hL2 := liesG_own fAmt_len hown2 HB.out
    clear hown2 hb2 ha1 x0 x1 x2 xz HG
    go_wp2_with fail
    refine (HM.out _ _ _ hL2).mono ?_
    rintro e w3 ⟨rfl, hb3⟩
    replace q0 := keepa hb3 qz q0
    replace q1 := keepa hb3 qz q1
    replace q2 := keepf hb3 qz q2
    replace q3 := keepf hb3 qz q3
    replace qz := Nat.lt_of_lt_of_le qz hb3.size
    have ha3 := bstep ha2 hb3
    clear hL2 hb3 ha2 HM
    go_wp2
    refine bodyPost_ret (v := .tuple #[.agg #[.int .i64 x, .int .i64 y], .bool true]) (by simp only [results, Try.results62]; go_simp) rfl ⟨rfl, ?_⟩
    (repeat (first | with_reducible exact Below.refl _ _ | with_reducible assumption | with_reducible refine balloc ?_ _ | with_reducible refine bdrew ?_ | with_reducible refine below_drewN ?_ _ | with_reducible refine bset ?_ ?_ _ | with_reducible exact Nat.le_refl _ | with_reducible refine bsize ?_ | (dsimp only; refine Nat.le_trans ?_ (Nat.le_add_right _ _)) | with_reducible refine Nat.le_trans ?_ (Nat.le_add_right _ _) | (with_reducible refine bstep ?_ (by assumption))))
end Go.Proofs.Ytngoibohkckgpaa
