/- The model's amParse. -/
import Derived.Test.YtffafiidblamkaaDoorParseI
import Derived.Test.YtffafiidblamkaaDoorParseS
import Derived.Test.YtffafiidblamkaaDoorOrd
import Derived.Deep.RegionHeldLaw
namespace Go.Proofs.YtffafiidblamkaaDoor
open Go.ChangeShapes Go.WideShapes Go.ChangeAt Go.RowKit Go.Joins
set_option maxRecDepth 100000
set_option linter.unusedVariables false
set_option linter.unusedSimpArgs false

set_option maxHeartbeats 4000000 in
theorem amParse_spec (s : ByteArray) (hs : s.size ≤ 1048576) (w : World) :
    Calls Tryd.prog 23 #[.string s] w fun e w' => e = .returned (.tuple #[.agg #[.int .i64 (apN s.data.toList), .int .i64 (apD s.data.toList)], .bool (apB s.data.toList)]) ∧ Below w.heap.size w w' := by
  have hl := size_len s
  by_cases hlen : 20 < s.size
  · obtain ⟨e1, e2, e3⟩ := ap_none s.data.toList (by unfold apV; rw [if_pos (by omega)])
    rw [e1, e2, e3]
    clear e1 e2 e3
    go_enter Tryd.func23, Tryd.ntmps23
    go_wp2
    refine bodyPost_ret (v := .tuple #[.agg #[.int .i64 0, .int .i64 0], .bool false]) (by simp only [results, Tryd.results23]; go_simp) rfl ⟨rfl, ?_⟩
    (repeat (first | with_reducible exact Below.refl _ _ | with_reducible assumption | with_reducible refine balloc ?_ _ | with_reducible refine bdrew ?_ | with_reducible refine below_drewN ?_ _ | with_reducible refine bset ?_ ?_ _ | with_reducible exact Nat.le_refl _ | with_reducible refine bsize ?_ | (dsimp only; refine Nat.le_trans ?_ (Nat.le_add_right _ _)) | with_reducible refine Nat.le_trans ?_ (Nat.le_add_right _ _) | (with_reducible refine bstep ?_ (by assumption))))
  have HS := Lib.hid (fun W => split_cells s 43 (by omega) W)
  have hpl := spl_len 43 s.data.toList
  cases hL : spl 43 s.data.toList with
  | nil => exact absurd hL (spl_ne 43 _)
  | cons a L =>
  rw [hL] at hpl HS
  have la := hpl a List.mem_cons_self
  have HA := Lib.hid (fun W => read_piece a (by omega) W)
  cases hA : rdB a
  · have e0 : apV s.data.toList = none := by
      unfold apV
      rw [if_neg (by omega), hL]
      cases L with
      | nil => simp only [hA]; rfl
      | cons c L =>
        cases L with
        | nil => simp only [hA]; rfl
        | cons q m => rfl
    obtain ⟨e1, e2, e3⟩ := ap_none _ e0
    rw [e1, e2, e3]
    rw [rdI_no a hA] at HA
    replace HS := Lib.hid (show ∀ W, Calls Tryd.prog 35 #[.string s, .int .u8 43] W fun e w' => ∃ g cap, e = .returned (.slice (some ⟨g, 0, none⟩) (L.length + 1 : Nat) cap) ∧ w'.cell? ⟨g, 0, none⟩ = some (.string ⟨a.toArray⟩) ∧ Below W.heap.size W w' from fun W => (HS.out W).mono (by
      rintro e w' ⟨g, cap, he, hc, hb⟩
      exact ⟨g, cap, he, hc 0 a rfl, hb⟩))
    generalize L.length = k at *
    generalize ({ data := a.toArray } : ByteArray) = A at *
    clear e0 e1 e2 e3 hA hL hpl la
    go_enter Tryd.func23, Tryd.ntmps23
    go_wp2_with fail
    refine (HS.out _).mono ?_
    rintro e w1 ⟨g, cap, rfl, c0, hb1⟩
    have ha1 := hb1
    obtain ⟨kc1, kf1, kz1, ky1, kx1, kv1, ku1⟩ := bcell hb1
    go_wp2_with fail
    refine (HA.out _).mono ?_
    rintro e w0 ⟨rfl, rfl⟩
    go_wp2
    refine bodyPost_ret (v := .tuple #[.agg #[.int .i64 0, .int .i64 0], .bool false]) (by simp only [results, Tryd.results23]; go_simp) rfl ⟨rfl, ?_⟩
    (repeat (first | with_reducible exact Below.refl _ _ | with_reducible assumption | with_reducible refine balloc ?_ _ | with_reducible refine bdrew ?_ | with_reducible refine below_drewN ?_ _ | with_reducible refine bset ?_ ?_ _ | with_reducible exact Nat.le_refl _ | with_reducible refine bsize ?_ | (dsimp only; refine Nat.le_trans ?_ (Nat.le_add_right _ _)) | with_reducible refine Nat.le_trans ?_ (Nat.le_add_right _ _) | (with_reducible refine bstep ?_ (by assumption))))
  obtain ⟨f1, f2, f3⟩ := rdI_yes a hA
  rw [f1] at HA
  cases L with
  | nil =>
    obtain ⟨e1, e2, e3⟩ := ap_some s.data.toList (rdG a) 1 (by unfold apV; rw [if_neg (by omega), hL]; simp only [hA, if_true])
    rw [e1, e2, e3]
    replace HS := Lib.hid (show ∀ W, Calls Tryd.prog 35 #[.string s, .int .u8 43] W fun e w' => ∃ g cap, e = .returned (.slice (some ⟨g, 0, none⟩) 1 cap) ∧ w'.cell? ⟨g, 0, none⟩ = some (.string ⟨a.toArray⟩) ∧ Below W.heap.size W w' from fun W => (HS.out W).mono (by
      rintro e w' ⟨g, cap, he, hc, hb⟩
      exact ⟨g, cap, he, hc 0 a rfl, hb⟩))
    have hg : gi (rdG a) 1 = 1 := by unfold gi; rw [Int.gcd_one_right]; rfl
    have hlow : lowB (rdG a) 1 = true := (lowB_iff _ _).2 ⟨f2, by omega, by rw [hg]; omega, by rw [hg]; omega⟩
    have HM := Lib.hid (fun W => make_spec (rdG a) 1 f2 (by omega) (by omega) (by omega) W)
    have g1 : lowN (rdG a) 1 = rdG a := by unfold lowN; rw [if_pos hlow, hg]; omega
    have g2 : lowD (rdG a) 1 = 1 := by unfold lowD; rw [if_pos hlow, hg]; omega
    rw [g1, g2, hlow] at HM
    generalize rdG a = n at *
    generalize ({ data := a.toArray } : ByteArray) = A at *
    clear e1 e2 e3 hA hL hpl la g1 g2 hg hlow f1
    go_enter Tryd.func23, Tryd.ntmps23
    go_wp2_with fail
    refine (HS.out _).mono ?_
    rintro e w1 ⟨g, cap, rfl, c0, hb1⟩
    have ha1 := hb1
    obtain ⟨kc1, kf1, kz1, ky1, kx1, kv1, ku1⟩ := bcell hb1
    go_wp2_with fail
    refine (HA.out _).mono ?_
    rintro e w0 ⟨rfl, rfl⟩
    (go_wp2_with fail; refine (HM.out _).mono ?_; rintro e w3 ⟨rfl, hb3⟩; have ha3 := bjoin ha1 hb3 (by (repeat (first | with_reducible exact Below.refl _ _ | with_reducible assumption | with_reducible refine balloc ?_ _ | with_reducible refine bdrew ?_ | with_reducible refine below_drewN ?_ _ | with_reducible refine bset ?_ ?_ _ | with_reducible exact Nat.le_refl _ | with_reducible refine bsize ?_ | (dsimp only; refine Nat.le_trans ?_ (Nat.le_add_right _ _)) | with_reducible refine Nat.le_trans ?_ (Nat.le_add_right _ _) | (with_reducible refine bstep ?_ (by assumption))))); obtain ⟨kc3, kf3, kz3, ky3, kx3, kv3, ku3⟩ := bcell hb3; obtain ⟨jc3, jf3, jz3, jy3, jx3, jv3, ju3⟩ := bcell ha3)
    go_wp2
    refine bodyPost_ret (v := .tuple #[.agg #[.int .i64 n, .int .i64 1], .bool true]) (by simp only [results, Tryd.results23]; go_simp) rfl ⟨rfl, ?_⟩
    (repeat (first | with_reducible exact Below.refl _ _ | with_reducible assumption | with_reducible refine balloc ?_ _ | with_reducible refine bdrew ?_ | with_reducible refine below_drewN ?_ _ | with_reducible refine bset ?_ ?_ _ | with_reducible exact Nat.le_refl _ | with_reducible refine bsize ?_ | (dsimp only; refine Nat.le_trans ?_ (Nat.le_add_right _ _)) | with_reducible refine Nat.le_trans ?_ (Nat.le_add_right _ _) | (with_reducible refine bstep ?_ (by assumption))))
  | cons c L =>
  cases L with
  | cons q m =>
    obtain ⟨e1, e2, e3⟩ := ap_none s.data.toList (by unfold apV; rw [if_neg (by omega), hL])
    rw [e1, e2, e3]
    replace HS := Lib.hid (show ∀ W, Calls Tryd.prog 35 #[.string s, .int .u8 43] W fun e w' => ∃ g cap, e = .returned (.slice (some ⟨g, 0, none⟩) (m.length + 3 : Nat) cap) ∧ w'.cell? ⟨g, 0, none⟩ = some (.string ⟨a.toArray⟩) ∧ Below W.heap.size W w' from fun W => (HS.out W).mono (by
      rintro e w' ⟨g, cap, he, hc, hb⟩
      exact ⟨g, cap, he, hc 0 a rfl, hb⟩))
    generalize rdG a = n at *
    generalize m.length = k at *
    generalize ({ data := a.toArray } : ByteArray) = A at *
    clear e1 e2 e3 hA hL hpl la f1
    go_enter Tryd.func23, Tryd.ntmps23
    go_wp2_with fail
    refine (HS.out _).mono ?_
    rintro e w1 ⟨g, cap, rfl, c0, hb1⟩
    have ha1 := hb1
    obtain ⟨kc1, kf1, kz1, ky1, kx1, kv1, ku1⟩ := bcell hb1
    go_wp2_with fail
    refine (HA.out _).mono ?_
    rintro e w0 ⟨rfl, rfl⟩
    go_wp2
    refine bodyPost_ret (v := .tuple #[.agg #[.int .i64 0, .int .i64 0], .bool false]) (by simp only [results, Tryd.results23]; go_simp) rfl ⟨rfl, ?_⟩
    (repeat (first | with_reducible exact Below.refl _ _ | with_reducible assumption | with_reducible refine balloc ?_ _ | with_reducible refine bdrew ?_ | with_reducible refine below_drewN ?_ _ | with_reducible refine bset ?_ ?_ _ | with_reducible exact Nat.le_refl _ | with_reducible refine bsize ?_ | (dsimp only; refine Nat.le_trans ?_ (Nat.le_add_right _ _)) | with_reducible refine Nat.le_trans ?_ (Nat.le_add_right _ _) | (with_reducible refine bstep ?_ (by assumption))))
  | nil =>
  have lc := hpl c (List.mem_cons_of_mem _ List.mem_cons_self)
  replace HS := Lib.hid (show ∀ W, Calls Tryd.prog 35 #[.string s, .int .u8 43] W fun e w' => ∃ g cap, e = .returned (.slice (some ⟨g, 0, none⟩) 2 cap) ∧ w'.cell? ⟨g, 0, none⟩ = some (.string ⟨a.toArray⟩) ∧ w'.cell? ⟨g, 1, none⟩ = some (.string ⟨c.toArray⟩) ∧ Below W.heap.size W w' from fun W => (HS.out W).mono (by
      rintro e w' ⟨g, cap, he, hc, hb⟩
      exact ⟨g, cap, he, hc 0 a rfl, hc 1 c rfl, hb⟩))
  have HT := Lib.hid (show ∀ W, Calls Tryd.prog 35 #[.string ⟨c.toArray⟩, .int .u8 47] W fun e w' => ∃ g cap, e = .returned (.slice (some ⟨g, 0, none⟩) (spl 47 c).length cap) ∧ (∀ i x, (spl 47 c)[i]? = some x → w'.cell? ⟨g, i, none⟩ = some (pieceV x)) ∧ Below W.heap.size W w' from fun W => split_cells ⟨c.toArray⟩ 47 (show c.length ≤ 1000000 by omega) W)
  have hpc := spl_len 47 c
  have ev : apV s.data.toList = (match spl 47 c with
      | [x, y] => if rdB x = true ∧ rdB y = true ∧ 1 ≤ rdG x ∧ rdG x < rdG y ∧ gi (rdG x) (rdG y) = 1 ∧ rdG a * rdG y + rdG x ≤ 1000000000 then some (rdG a * rdG y + rdG x, rdG y) else none
      | _ => none) := by
    unfold apV
    rw [if_neg (by omega), hL]
    simp only [hA, if_true]
    cases spl 47 c with
    | nil => rfl
    | cons x t =>
      cases t with
      | nil => rfl
      | cons y t => cases t <;> rfl
  by_cases h2 : (spl 47 c).length = 2
  case neg =>
    obtain ⟨e1, e2, e3⟩ := ap_none s.data.toList (by
      rw [ev]
      split
      · next h => rw [h] at h2; exact absurd rfl h2
      · rfl)
    rw [e1, e2, e3]
    generalize (spl 47 c).length = k at *
    replace HT := Lib.hid (show ∀ W, Calls Tryd.prog 35 #[.string ⟨c.toArray⟩, .int .u8 47] W fun e w' => ∃ g cap, e = .returned (.slice (some ⟨g, 0, none⟩) k cap) ∧ Below W.heap.size W w' from fun W => (HT.out W).mono (by
      rintro e w' ⟨g, cap, he, hc, hb⟩
      exact ⟨g, cap, he, hb⟩))
    generalize rdG a = n at *
    generalize ({ data := a.toArray } : ByteArray) = A at *
    generalize ({ data := c.toArray } : ByteArray) = C at *
    clear e1 e2 e3 ev hA hL hpl la lc f1 hpc
    go_enter Tryd.func23, Tryd.ntmps23
    go_wp2_with fail
    refine (HS.out _).mono ?_
    rintro e w1 ⟨g, cap, rfl, c0, c1, hb1⟩
    have ha1 := hb1
    obtain ⟨kc1, kf1, kz1, ky1, kx1, kv1, ku1⟩ := bcell hb1
    go_wp2_with fail
    refine (HA.out _).mono ?_
    rintro e w0 ⟨rfl, rfl⟩
    go_wp2_with fail
    refine (HT.out _).mono ?_
    rintro e w2 ⟨g2, cap2, rfl, hb2⟩
    have ha2 := bjoin ha1 hb2 (by (repeat (first | with_reducible exact Below.refl _ _ | with_reducible assumption | with_reducible refine balloc ?_ _ | with_reducible refine bdrew ?_ | with_reducible refine below_drewN ?_ _ | with_reducible refine bset ?_ ?_ _ | with_reducible exact Nat.le_refl _ | with_reducible refine bsize ?_ | (dsimp only; refine Nat.le_trans ?_ (Nat.le_add_right _ _)) | with_reducible refine Nat.le_trans ?_ (Nat.le_add_right _ _) | (with_reducible refine bstep ?_ (by assumption)))))
    obtain ⟨kc2, kf2, kz2, ky2, kx2, kv2, ku2⟩ := bcell hb2
    obtain ⟨jc2, jf2, jz2, jy2, jx2, jv2, ju2⟩ := bcell ha2
    go_wp2
    refine bodyPost_ret (v := .tuple #[.agg #[.int .i64 0, .int .i64 0], .bool false]) (by simp only [results, Tryd.results23]; go_simp) rfl ⟨rfl, ?_⟩
    (repeat (first | with_reducible exact Below.refl _ _ | with_reducible assumption | with_reducible refine balloc ?_ _ | with_reducible refine bdrew ?_ | with_reducible refine below_drewN ?_ _ | with_reducible refine bset ?_ ?_ _ | with_reducible exact Nat.le_refl _ | with_reducible refine bsize ?_ | (dsimp only; refine Nat.le_trans ?_ (Nat.le_add_right _ _)) | with_reducible refine Nat.le_trans ?_ (Nat.le_add_right _ _) | (with_reducible refine bstep ?_ (by assumption))))
  obtain ⟨x, y, hxy⟩ : ∃ x y, spl 47 c = [x, y] := by
    match h : spl 47 c, h2 with
    | [x, y], _ => exact ⟨x, y, rfl⟩
  rw [hxy] at ev hpc HT
  simp only at ev
  have lx := hpc x List.mem_cons_self
  have ly := hpc y (List.mem_cons_of_mem _ List.mem_cons_self)
  replace HT := Lib.hid (show ∀ W, Calls Tryd.prog 35 #[.string ⟨c.toArray⟩, .int .u8 47] W fun e w' => ∃ g cap, e = .returned (.slice (some ⟨g, 0, none⟩) 2 cap) ∧ w'.cell? ⟨g, 0, none⟩ = some (.string ⟨x.toArray⟩) ∧ w'.cell? ⟨g, 1, none⟩ = some (.string ⟨y.toArray⟩) ∧ Below W.heap.size W w' from fun W => (HT.out W).mono (by
      rintro e w' ⟨g, cap, he, hc, hb⟩
      exact ⟨g, cap, he, hc 0 x rfl, hc 1 y rfl, hb⟩))
  have HX := Lib.hid (fun W => read_piece x (by omega) W)
  have HY := Lib.hid (fun W => read_piece y (by omega) W)
  by_cases hgd : 1 ≤ rdI x ∧ rdI x < rdI y
  case neg =>
    obtain ⟨e1, e2, e3⟩ := ap_none s.data.toList (by
      rw [ev]
      apply if_neg
      rintro ⟨b1, b2, b3, b4, _⟩
      exact hgd ⟨by rw [(rdI_yes x b1).1]; exact b3, by rw [(rdI_yes x b1).1, (rdI_yes y b2).1]; exact b4⟩)
    rw [e1, e2, e3]
    generalize rdG a = n at *
    generalize rdI x = i at *
    generalize rdI y = j at *
    generalize ({ data := a.toArray } : ByteArray) = A at *
    generalize ({ data := c.toArray } : ByteArray) = C at *
    generalize ({ data := x.toArray } : ByteArray) = X at *
    generalize ({ data := y.toArray } : ByteArray) = Y at *
    clear e1 e2 e3 ev hA hL hpl la lc f1 hpc hxy h2 lx ly
    by_cases hgx : 1 ≤ i
    · have hgy : ¬ i < j := fun h => hgd ⟨hgx, h⟩
      clear hgd
      go_enter Tryd.func23, Tryd.ntmps23
      go_wp2_with fail
      refine (HS.out _).mono ?_
      rintro e w1 ⟨g, cap, rfl, c0, c1, hb1⟩
      have ha1 := hb1
      obtain ⟨kc1, kf1, kz1, ky1, kx1, kv1, ku1⟩ := bcell hb1
      go_wp2_with fail
      refine (HA.out _).mono ?_
      rintro e w0 ⟨rfl, rfl⟩
      go_wp2_with fail
      refine (HT.out _).mono ?_
      rintro e w2 ⟨g2, cap2, rfl, c2, c3, hb2⟩
      have ha2 := bjoin ha1 hb2 (by (repeat (first | with_reducible exact Below.refl _ _ | with_reducible assumption | with_reducible refine balloc ?_ _ | with_reducible refine bdrew ?_ | with_reducible refine below_drewN ?_ _ | with_reducible refine bset ?_ ?_ _ | with_reducible exact Nat.le_refl _ | with_reducible refine bsize ?_ | (dsimp only; refine Nat.le_trans ?_ (Nat.le_add_right _ _)) | with_reducible refine Nat.le_trans ?_ (Nat.le_add_right _ _) | (with_reducible refine bstep ?_ (by assumption)))))
      obtain ⟨kc2, kf2, kz2, ky2, kx2, kv2, ku2⟩ := bcell hb2
      obtain ⟨jc2, jf2, jz2, jy2, jx2, jv2, ju2⟩ := bcell ha2
      go_upto_region 12 with fail
      refine wp_region_noPanic ?_
      refine wp_region_T 9 (fun W => W.cell? ⟨g2, 0, none⟩ = some (.string X) ∧ W.cell? ⟨g2, 1, none⟩ = some (.string Y)) (by kernel_rfl) (by simp [go_sem, c2, c3]) (fun hHeld => ?_)
      (refine wpAnyT_take (i := 0) (v := ?_) (by rfl) (by kernel_rfl) (by kernel_rfl) (by kernel_rfl) (by kernel_rfl) (fun _ _ _ h => h) (Or.inl ⟨by rfl, ?_⟩) (by assumption) ?_; rotate_left; (focus (intro w hSw; (try dsimp only at hSw); go_simp; (try with_reducible rfl))); (try simp only [Act.put, List.setIfInBounds_toArray, List.set_cons_zero, List.set_cons_succ]))
      (refine wpAnyT_take (i := 1) (v := ?_) (by rfl) (by kernel_rfl) (by kernel_rfl) (by kernel_rfl) (by kernel_rfl) (fun _ _ _ h => h) (Or.inl ⟨by rfl, ?_⟩) (by assumption) ?_; rotate_left; (focus (intro w hSw; (try dsimp only at hSw); go_simp; (try with_reducible rfl))); (try simp only [Act.put, List.setIfInBounds_toArray, List.set_cons_zero, List.set_cons_succ]))
      (refine wpAnyT_take (i := 2) (v := ?_) (by rfl) (by kernel_rfl) (by kernel_rfl) (by kernel_rfl) (by kernel_rfl) (fun _ _ _ h => h) (Or.inl ⟨by rfl, ?_⟩) (by assumption) ?_; rotate_left; (focus (intro w hSw; (try dsimp only at hSw); go_simp; (try with_reducible rfl))); (try simp only [Act.put, List.setIfInBounds_toArray, List.set_cons_zero, List.set_cons_succ]))
      (refine wpAnyT_take (i := 4) (v := ?_) (by rfl) (by kernel_rfl) (by kernel_rfl) (by kernel_rfl) (by kernel_rfl) (fun _ _ _ h => h) (Or.inl ⟨by rfl, ?_⟩) (by assumption) ?_; rotate_left; (focus (intro w hSw; (try dsimp only at hSw); go_simp; (try with_reducible rfl))); (try simp only [Act.put, List.setIfInBounds_toArray, List.set_cons_zero, List.set_cons_succ]))
      (refine wpAnyT_take (i := 5) (v := ?_) (by rfl) (by kernel_rfl) (by kernel_rfl) (by kernel_rfl) (by kernel_rfl) (fun _ _ _ h => h) (Or.inl ⟨by rfl, ?_⟩) (by assumption) ?_; rotate_left; (focus (intro w hSw; (try dsimp only at hSw); go_simp; (try with_reducible rfl))); (try simp only [Act.put, List.setIfInBounds_toArray, List.set_cons_zero, List.set_cons_succ]))
      (refine wpAnyT_take (i := 6) (v := ?_) (by rfl) (by kernel_rfl) (by kernel_rfl) (by kernel_rfl) (by kernel_rfl) (fun _ _ _ h => h) (Or.inl ⟨by rfl, ?_⟩) (by assumption) ?_; rotate_left; (focus (intro w hSw; (try dsimp only at hSw); go_simp; (try with_reducible rfl))); (try simp only [Act.put, List.setIfInBounds_toArray, List.set_cons_zero, List.set_cons_succ]))
      (refine wpAnyT_one (i := 3) (by kernel_rfl) (by rfl) (fun K hK => ?_); go_simp; (refine (HX.out _).mono ?_; rintro e w0 ⟨rfl, rfl⟩); (try go_wp2_with fail); refine hK.out _ _ (Or.inr (by exact hHeld)) (fun hHeld => ?_); replace hHeld := hHeld.resolve_left (by decide); clear hK; clear K; (try simp only [Act.put, List.setIfInBounds_toArray, List.set_cons_zero, List.set_cons_succ]))
      (refine wpAnyT_one (i := 7) (by kernel_rfl) (by rfl) (fun K hK => ?_); go_simp; (refine (HY.out _).mono ?_; rintro e w0 ⟨rfl, rfl⟩); (try go_wp2_with fail); refine hK.out _ _ (Or.inr (by exact hHeld)) (fun hHeld => ?_); replace hHeld := hHeld.resolve_left (by decide); clear hK; clear K; (try simp only [Act.put, List.setIfInBounds_toArray, List.set_cons_zero, List.set_cons_succ]))
      (refine wpAnyT_take (i := 8) (v := ?_) (by rfl) (by kernel_rfl) (by kernel_rfl) (by kernel_rfl) (by kernel_rfl) (fun _ _ _ h => h) (Or.inl ⟨by rfl, ?_⟩) (by assumption) ?_; rotate_left; (focus (intro w hSw; (try dsimp only at hSw); go_simp; (try with_reducible rfl))); (try simp only [Act.put, List.setIfInBounds_toArray, List.set_cons_zero, List.set_cons_succ]))
      refine wpAnyT_one (i := 9) (by kernel_rfl) (by rfl) (fun K hK => ?_)
      go_simp
      refine hK.out _ _ (Or.inl rfl) (fun _ => ?_)
      refine wpAnyT_done (by kernel_rfl) ?_ _
      refine NoPanic.normal ?_
      go_wp2
      refine bodyPost_ret (v := .tuple #[.agg #[.int .i64 0, .int .i64 0], .bool false]) (by simp only [results, Tryd.results23]; go_simp) rfl ⟨rfl, ?_⟩
      (repeat (first | with_reducible exact Below.refl _ _ | with_reducible assumption | with_reducible refine balloc ?_ _ | with_reducible refine bdrew ?_ | with_reducible refine below_drewN ?_ _ | with_reducible refine bset ?_ ?_ _ | with_reducible exact Nat.le_refl _ | with_reducible refine bsize ?_ | (dsimp only; refine Nat.le_trans ?_ (Nat.le_add_right _ _)) | with_reducible refine Nat.le_trans ?_ (Nat.le_add_right _ _) | (with_reducible refine bstep ?_ (by assumption))))
    · clear hgd
      go_enter Tryd.func23, Tryd.ntmps23
      go_wp2_with fail
      refine (HS.out _).mono ?_
      rintro e w1 ⟨g, cap, rfl, c0, c1, hb1⟩
      have ha1 := hb1
      obtain ⟨kc1, kf1, kz1, ky1, kx1, kv1, ku1⟩ := bcell hb1
      go_wp2_with fail
      refine (HA.out _).mono ?_
      rintro e w0 ⟨rfl, rfl⟩
      go_wp2_with fail
      refine (HT.out _).mono ?_
      rintro e w2 ⟨g2, cap2, rfl, c2, c3, hb2⟩
      have ha2 := bjoin ha1 hb2 (by (repeat (first | with_reducible exact Below.refl _ _ | with_reducible assumption | with_reducible refine balloc ?_ _ | with_reducible refine bdrew ?_ | with_reducible refine below_drewN ?_ _ | with_reducible refine bset ?_ ?_ _ | with_reducible exact Nat.le_refl _ | with_reducible refine bsize ?_ | (dsimp only; refine Nat.le_trans ?_ (Nat.le_add_right _ _)) | with_reducible refine Nat.le_trans ?_ (Nat.le_add_right _ _) | (with_reducible refine bstep ?_ (by assumption)))))
      obtain ⟨kc2, kf2, kz2, ky2, kx2, kv2, ku2⟩ := bcell hb2
      obtain ⟨jc2, jf2, jz2, jy2, jx2, jv2, ju2⟩ := bcell ha2
      go_upto_region 12 with fail
      refine wp_region_noPanic ?_
      refine wp_region_T 9 (fun W => W.cell? ⟨g2, 0, none⟩ = some (.string X) ∧ W.cell? ⟨g2, 1, none⟩ = some (.string Y)) (by kernel_rfl) (by simp [go_sem, c2, c3]) (fun hHeld => ?_)
      (refine wpAnyT_take (i := 0) (v := ?_) (by rfl) (by kernel_rfl) (by kernel_rfl) (by kernel_rfl) (by kernel_rfl) (fun _ _ _ h => h) (Or.inl ⟨by rfl, ?_⟩) (by assumption) ?_; rotate_left; (focus (intro w hSw; (try dsimp only at hSw); go_simp; (try with_reducible rfl))); (try simp only [Act.put, List.setIfInBounds_toArray, List.set_cons_zero, List.set_cons_succ]))
      (refine wpAnyT_take (i := 1) (v := ?_) (by rfl) (by kernel_rfl) (by kernel_rfl) (by kernel_rfl) (by kernel_rfl) (fun _ _ _ h => h) (Or.inl ⟨by rfl, ?_⟩) (by assumption) ?_; rotate_left; (focus (intro w hSw; (try dsimp only at hSw); go_simp; (try with_reducible rfl))); (try simp only [Act.put, List.setIfInBounds_toArray, List.set_cons_zero, List.set_cons_succ]))
      (refine wpAnyT_take (i := 2) (v := ?_) (by rfl) (by kernel_rfl) (by kernel_rfl) (by kernel_rfl) (by kernel_rfl) (fun _ _ _ h => h) (Or.inl ⟨by rfl, ?_⟩) (by assumption) ?_; rotate_left; (focus (intro w hSw; (try dsimp only at hSw); go_simp; (try with_reducible rfl))); (try simp only [Act.put, List.setIfInBounds_toArray, List.set_cons_zero, List.set_cons_succ]))
      (refine wpAnyT_take (i := 4) (v := ?_) (by rfl) (by kernel_rfl) (by kernel_rfl) (by kernel_rfl) (by kernel_rfl) (fun _ _ _ h => h) (Or.inl ⟨by rfl, ?_⟩) (by assumption) ?_; rotate_left; (focus (intro w hSw; (try dsimp only at hSw); go_simp; (try with_reducible rfl))); (try simp only [Act.put, List.setIfInBounds_toArray, List.set_cons_zero, List.set_cons_succ]))
      (refine wpAnyT_take (i := 5) (v := ?_) (by rfl) (by kernel_rfl) (by kernel_rfl) (by kernel_rfl) (by kernel_rfl) (fun _ _ _ h => h) (Or.inl ⟨by rfl, ?_⟩) (by assumption) ?_; rotate_left; (focus (intro w hSw; (try dsimp only at hSw); go_simp; (try with_reducible rfl))); (try simp only [Act.put, List.setIfInBounds_toArray, List.set_cons_zero, List.set_cons_succ]))
      (refine wpAnyT_take (i := 6) (v := ?_) (by rfl) (by kernel_rfl) (by kernel_rfl) (by kernel_rfl) (by kernel_rfl) (fun _ _ _ h => h) (Or.inl ⟨by rfl, ?_⟩) (by assumption) ?_; rotate_left; (focus (intro w hSw; (try dsimp only at hSw); go_simp; (try with_reducible rfl))); (try simp only [Act.put, List.setIfInBounds_toArray, List.set_cons_zero, List.set_cons_succ]))
      (refine wpAnyT_one (i := 3) (by kernel_rfl) (by rfl) (fun K hK => ?_); go_simp; (refine (HX.out _).mono ?_; rintro e w0 ⟨rfl, rfl⟩); (try go_wp2_with fail); refine hK.out _ _ (Or.inr (by exact hHeld)) (fun hHeld => ?_); replace hHeld := hHeld.resolve_left (by decide); clear hK; clear K; (try simp only [Act.put, List.setIfInBounds_toArray, List.set_cons_zero, List.set_cons_succ]))
      (refine wpAnyT_one (i := 7) (by kernel_rfl) (by rfl) (fun K hK => ?_); go_simp; (refine (HY.out _).mono ?_; rintro e w0 ⟨rfl, rfl⟩); (try go_wp2_with fail); refine hK.out _ _ (Or.inr (by exact hHeld)) (fun hHeld => ?_); replace hHeld := hHeld.resolve_left (by decide); clear hK; clear K; (try simp only [Act.put, List.setIfInBounds_toArray, List.set_cons_zero, List.set_cons_succ]))
      (refine wpAnyT_take (i := 8) (v := ?_) (by rfl) (by kernel_rfl) (by kernel_rfl) (by kernel_rfl) (by kernel_rfl) (fun _ _ _ h => h) (Or.inl ⟨by rfl, ?_⟩) (by assumption) ?_; rotate_left; (focus (intro w hSw; (try dsimp only at hSw); go_simp; (try with_reducible rfl))); (try simp only [Act.put, List.setIfInBounds_toArray, List.set_cons_zero, List.set_cons_succ]))
      refine wpAnyT_one (i := 9) (by kernel_rfl) (by rfl) (fun K hK => ?_)
      go_simp
      refine hK.out _ _ (Or.inl rfl) (fun _ => ?_)
      refine wpAnyT_done (by kernel_rfl) ?_ _
      refine NoPanic.normal ?_
      go_wp2
      refine bodyPost_ret (v := .tuple #[.agg #[.int .i64 0, .int .i64 0], .bool false]) (by simp only [results, Tryd.results23]; go_simp) rfl ⟨rfl, ?_⟩
      (repeat (first | with_reducible exact Below.refl _ _ | with_reducible assumption | with_reducible refine balloc ?_ _ | with_reducible refine bdrew ?_ | with_reducible refine below_drewN ?_ _ | with_reducible refine bset ?_ ?_ _ | with_reducible exact Nat.le_refl _ | with_reducible refine bsize ?_ | (dsimp only; refine Nat.le_trans ?_ (Nat.le_add_right _ _)) | with_reducible refine Nat.le_trans ?_ (Nat.le_add_right _ _) | (with_reducible refine bstep ?_ (by assumption))))
  obtain ⟨hg1, hg2⟩ := hgd
  have bx : rdB x = true := by cases hb : rdB x; rw [rdI_no x hb] at hg1; omega; rfl
  have byy : rdB y = true := by cases hb : rdB y; rw [rdI_no y hb] at hg2; omega; rfl
  obtain ⟨x1, x2, x3⟩ := rdI_yes x bx
  obtain ⟨y1, y2, y3⟩ := rdI_yes y byy
  rw [x1] at hg1 hg2 HX
  rw [y1] at hg2 HY
  have HG := Lib.hid (fun W => common_spec (rdG x) (rdG y) (by omega) (by omega) (by omega) (by omega) W)
  have bm : 0 ≤ rdG a * rdG y ∧ rdG a * rdG y ≤ 999998000001 := ⟨Int.mul_nonneg f2 y2, Int.le_trans (Int.mul_le_mul f3 y3 y2 (by omega)) (by decide)⟩
  by_cases hgi : gi (rdG x) (rdG y) = 1
  case neg =>
    obtain ⟨e1, e2, e3⟩ := ap_none s.data.toList (by
      rw [ev]
      apply if_neg
      rintro ⟨b1, b2, b3, b4, b5, _⟩
      exact hgi b5)
    rw [e1, e2, e3]
    generalize gi (rdG x) (rdG y) = gg at *
    generalize rdG a = n at *
    generalize rdG x = i at *
    generalize rdG y = j at *
    generalize ({ data := a.toArray } : ByteArray) = A at *
    generalize ({ data := c.toArray } : ByteArray) = C at *
    generalize ({ data := x.toArray } : ByteArray) = X at *
    generalize ({ data := y.toArray } : ByteArray) = Y at *
    clear e1 e2 e3 ev hA hL hpl la lc f1 hpc hxy h2 lx ly x1 y1 bm bx byy
    have hgn : (gg != 1) = true := by simpa using hgi
    go_enter Tryd.func23, Tryd.ntmps23
    go_wp2_with fail
    refine (HS.out _).mono ?_
    rintro e w1 ⟨g, cap, rfl, c0, c1, hb1⟩
    have ha1 := hb1
    obtain ⟨kc1, kf1, kz1, ky1, kx1, kv1, ku1⟩ := bcell hb1
    go_wp2_with fail
    refine (HA.out _).mono ?_
    rintro e w0 ⟨rfl, rfl⟩
    go_wp2_with fail
    refine (HT.out _).mono ?_
    rintro e w2 ⟨g2, cap2, rfl, c2, c3, hb2⟩
    have ha2 := bjoin ha1 hb2 (by (repeat (first | with_reducible exact Below.refl _ _ | with_reducible assumption | with_reducible refine balloc ?_ _ | with_reducible refine bdrew ?_ | with_reducible refine below_drewN ?_ _ | with_reducible refine bset ?_ ?_ _ | with_reducible exact Nat.le_refl _ | with_reducible refine bsize ?_ | (dsimp only; refine Nat.le_trans ?_ (Nat.le_add_right _ _)) | with_reducible refine Nat.le_trans ?_ (Nat.le_add_right _ _) | (with_reducible refine bstep ?_ (by assumption)))))
    obtain ⟨kc2, kf2, kz2, ky2, kx2, kv2, ku2⟩ := bcell hb2
    obtain ⟨jc2, jf2, jz2, jy2, jx2, jv2, ju2⟩ := bcell ha2
    go_upto_region 12 with fail
    refine wp_region_noPanic ?_
    refine wp_region_T 9 (fun W => W.cell? ⟨g2, 0, none⟩ = some (.string X) ∧ W.cell? ⟨g2, 1, none⟩ = some (.string Y)) (by kernel_rfl) (by simp [go_sem, c2, c3]) (fun hHeld => ?_)
    (refine wpAnyT_take (i := 0) (v := ?_) (by rfl) (by kernel_rfl) (by kernel_rfl) (by kernel_rfl) (by kernel_rfl) (fun _ _ _ h => h) (Or.inl ⟨by rfl, ?_⟩) (by assumption) ?_; rotate_left; (focus (intro w hSw; (try dsimp only at hSw); go_simp; (try with_reducible rfl))); (try simp only [Act.put, List.setIfInBounds_toArray, List.set_cons_zero, List.set_cons_succ]))
    (refine wpAnyT_take (i := 1) (v := ?_) (by rfl) (by kernel_rfl) (by kernel_rfl) (by kernel_rfl) (by kernel_rfl) (fun _ _ _ h => h) (Or.inl ⟨by rfl, ?_⟩) (by assumption) ?_; rotate_left; (focus (intro w hSw; (try dsimp only at hSw); go_simp; (try with_reducible rfl))); (try simp only [Act.put, List.setIfInBounds_toArray, List.set_cons_zero, List.set_cons_succ]))
    (refine wpAnyT_take (i := 2) (v := ?_) (by rfl) (by kernel_rfl) (by kernel_rfl) (by kernel_rfl) (by kernel_rfl) (fun _ _ _ h => h) (Or.inl ⟨by rfl, ?_⟩) (by assumption) ?_; rotate_left; (focus (intro w hSw; (try dsimp only at hSw); go_simp; (try with_reducible rfl))); (try simp only [Act.put, List.setIfInBounds_toArray, List.set_cons_zero, List.set_cons_succ]))
    (refine wpAnyT_take (i := 4) (v := ?_) (by rfl) (by kernel_rfl) (by kernel_rfl) (by kernel_rfl) (by kernel_rfl) (fun _ _ _ h => h) (Or.inl ⟨by rfl, ?_⟩) (by assumption) ?_; rotate_left; (focus (intro w hSw; (try dsimp only at hSw); go_simp; (try with_reducible rfl))); (try simp only [Act.put, List.setIfInBounds_toArray, List.set_cons_zero, List.set_cons_succ]))
    (refine wpAnyT_take (i := 5) (v := ?_) (by rfl) (by kernel_rfl) (by kernel_rfl) (by kernel_rfl) (by kernel_rfl) (fun _ _ _ h => h) (Or.inl ⟨by rfl, ?_⟩) (by assumption) ?_; rotate_left; (focus (intro w hSw; (try dsimp only at hSw); go_simp; (try with_reducible rfl))); (try simp only [Act.put, List.setIfInBounds_toArray, List.set_cons_zero, List.set_cons_succ]))
    (refine wpAnyT_take (i := 6) (v := ?_) (by rfl) (by kernel_rfl) (by kernel_rfl) (by kernel_rfl) (by kernel_rfl) (fun _ _ _ h => h) (Or.inl ⟨by rfl, ?_⟩) (by assumption) ?_; rotate_left; (focus (intro w hSw; (try dsimp only at hSw); go_simp; (try with_reducible rfl))); (try simp only [Act.put, List.setIfInBounds_toArray, List.set_cons_zero, List.set_cons_succ]))
    (refine wpAnyT_one (i := 3) (by kernel_rfl) (by rfl) (fun K hK => ?_); go_simp; (refine (HX.out _).mono ?_; rintro e w0 ⟨rfl, rfl⟩); (try go_wp2_with fail); refine hK.out _ _ (Or.inr (by exact hHeld)) (fun hHeld => ?_); replace hHeld := hHeld.resolve_left (by decide); clear hK; clear K; (try simp only [Act.put, List.setIfInBounds_toArray, List.set_cons_zero, List.set_cons_succ]))
    (refine wpAnyT_one (i := 7) (by kernel_rfl) (by rfl) (fun K hK => ?_); go_simp; (refine (HY.out _).mono ?_; rintro e w0 ⟨rfl, rfl⟩); (try go_wp2_with fail); refine hK.out _ _ (Or.inr (by exact hHeld)) (fun hHeld => ?_); replace hHeld := hHeld.resolve_left (by decide); clear hK; clear K; (try simp only [Act.put, List.setIfInBounds_toArray, List.set_cons_zero, List.set_cons_succ]))
    (refine wpAnyT_take (i := 8) (v := ?_) (by rfl) (by kernel_rfl) (by kernel_rfl) (by kernel_rfl) (by kernel_rfl) (fun _ _ _ h => h) (Or.inl ⟨by rfl, ?_⟩) (by assumption) ?_; rotate_left; (focus (intro w hSw; (try dsimp only at hSw); go_simp; (try with_reducible rfl))); (try simp only [Act.put, List.setIfInBounds_toArray, List.set_cons_zero, List.set_cons_succ]))
    refine wpAnyT_one (i := 9) (by kernel_rfl) (by rfl) (fun K hK => ?_)
    go_simp
    refine hK.out _ _ (Or.inl rfl) (fun _ => ?_)
    refine wpAnyT_done (by kernel_rfl) ?_ _
    refine NoPanic.normal ?_
    (go_wp2_with fail; refine (HG.out _).mono ?_; rintro e w3 ⟨rfl, hb3⟩; have ha3 := bjoin ha2 hb3 (by (repeat (first | with_reducible exact Below.refl _ _ | with_reducible assumption | with_reducible refine balloc ?_ _ | with_reducible refine bdrew ?_ | with_reducible refine below_drewN ?_ _ | with_reducible refine bset ?_ ?_ _ | with_reducible exact Nat.le_refl _ | with_reducible refine bsize ?_ | (dsimp only; refine Nat.le_trans ?_ (Nat.le_add_right _ _)) | with_reducible refine Nat.le_trans ?_ (Nat.le_add_right _ _) | (with_reducible refine bstep ?_ (by assumption))))); obtain ⟨kc3, kf3, kz3, ky3, kx3, kv3, ku3⟩ := bcell hb3; obtain ⟨jc3, jf3, jz3, jy3, jx3, jv3, ju3⟩ := bcell ha3)
    go_wp2
    refine bodyPost_ret (v := .tuple #[.agg #[.int .i64 0, .int .i64 0], .bool false]) (by simp only [results, Tryd.results23]; go_simp) rfl ⟨rfl, ?_⟩
    (repeat (first | with_reducible exact Below.refl _ _ | with_reducible assumption | with_reducible refine balloc ?_ _ | with_reducible refine bdrew ?_ | with_reducible refine below_drewN ?_ _ | with_reducible refine bset ?_ ?_ _ | with_reducible exact Nat.le_refl _ | with_reducible refine bsize ?_ | (dsimp only; refine Nat.le_trans ?_ (Nat.le_add_right _ _)) | with_reducible refine Nat.le_trans ?_ (Nat.le_add_right _ _) | (with_reducible refine bstep ?_ (by assumption))))
  have hd1 : 1 ≤ rdG y := by omega
  have hgm : gi (rdG a * rdG y + rdG x) (rdG y) = 1 := by
    have h := gi_mod (rdG a * rdG y + rdG x) (rdG y) (by omega) (by omega)
    rw [← h, Int.mul_comm, Int.mul_add_emod_self_left, Int.emod_eq_of_lt x2 hg2]
    exact hgi
  have HM := Lib.hid (fun W => make_spec (rdG a * rdG y + rdG x) (rdG y) (by omega) hd1 (by omega) (by omega) W)
  have hans : apN s.data.toList = lowN (rdG a * rdG y + rdG x) (rdG y) ∧ apD s.data.toList = lowD (rdG a * rdG y + rdG x) (rdG y) ∧ apB s.data.toList = lowB (rdG a * rdG y + rdG x) (rdG y) := by
    have hn1 : (rdG a * rdG y + rdG x) / gi (rdG a * rdG y + rdG x) (rdG y) = rdG a * rdG y + rdG x := by rw [hgm]; omega
    have hn2 : rdG y / gi (rdG a * rdG y + rdG x) (rdG y) = rdG y := by rw [hgm]; omega
    by_cases hm : rdG a * rdG y + rdG x ≤ 1000000000
    · have hlow : lowB (rdG a * rdG y + rdG x) (rdG y) = true := (lowB_iff _ _).2 ⟨by omega, hd1, by rw [hn1]; exact hm, by rw [hn2]; omega⟩
      obtain ⟨e1, e2, e3⟩ := ap_some s.data.toList (rdG a * rdG y + rdG x) (rdG y) (by rw [ev]; exact if_pos ⟨bx, byy, hg1, hg2, hgi, hm⟩)
      rw [e1, e2, e3]
      unfold lowN lowD
      rw [if_pos hlow, if_pos hlow, hn1, hn2, hlow]
      exact ⟨rfl, rfl, rfl⟩
    · have hlow : lowB (rdG a * rdG y + rdG x) (rdG y) = false := by
        cases hb : lowB (rdG a * rdG y + rdG x) (rdG y)
        · rfl
        · have := ((lowB_iff _ _).1 hb).2.2.1
          rw [hn1] at this
          exact absurd this hm
      obtain ⟨e1, e2, e3⟩ := ap_none s.data.toList (by
        rw [ev]
        apply if_neg
        rintro ⟨_, _, _, _, _, h⟩
        exact hm h)
      rw [e1, e2, e3, lowN_no _ _ hlow, lowD_no _ _ hlow, hlow]
      exact ⟨rfl, rfl, rfl⟩
  obtain ⟨e1, e2, e3⟩ := hans
  rw [e1, e2, e3]
  rw [hgi] at HG
  clear e1 e2 e3 ev hgm hgi
  generalize lowN (rdG a * rdG y + rdG x) (rdG y) = M1 at *
  generalize lowD (rdG a * rdG y + rdG x) (rdG y) = M2 at *
  generalize lowB (rdG a * rdG y + rdG x) (rdG y) = M3 at *
  generalize hmm0 : rdG a * rdG y = mm at *
  generalize rdG a = n at *
  generalize rdG x = i at *
  generalize rdG y = j at *
  generalize ({ data := a.toArray } : ByteArray) = A at *
  generalize ({ data := c.toArray } : ByteArray) = C at *
  generalize ({ data := x.toArray } : ByteArray) = X at *
  generalize ({ data := y.toArray } : ByteArray) = Y at *
  clear hA hL hpl la lc f1 hpc hxy h2 lx ly x1 y1 bx byy
  go_enter Tryd.func23, Tryd.ntmps23
  go_wp2_with fail
  refine (HS.out _).mono ?_
  rintro e w1 ⟨g, cap, rfl, c0, c1, hb1⟩
  have ha1 := hb1
  obtain ⟨kc1, kf1, kz1, ky1, kx1, kv1, ku1⟩ := bcell hb1
  go_wp2_with fail
  refine (HA.out _).mono ?_
  rintro e w0 ⟨rfl, rfl⟩
  go_wp2_with fail
  refine (HT.out _).mono ?_
  rintro e w2 ⟨g2, cap2, rfl, c2, c3, hb2⟩
  have ha2 := bjoin ha1 hb2 (by (repeat (first | with_reducible exact Below.refl _ _ | with_reducible assumption | with_reducible refine balloc ?_ _ | with_reducible refine bdrew ?_ | with_reducible refine below_drewN ?_ _ | with_reducible refine bset ?_ ?_ _ | with_reducible exact Nat.le_refl _ | with_reducible refine bsize ?_ | (dsimp only; refine Nat.le_trans ?_ (Nat.le_add_right _ _)) | with_reducible refine Nat.le_trans ?_ (Nat.le_add_right _ _) | (with_reducible refine bstep ?_ (by assumption)))))
  obtain ⟨kc2, kf2, kz2, ky2, kx2, kv2, ku2⟩ := bcell hb2
  obtain ⟨jc2, jf2, jz2, jy2, jx2, jv2, ju2⟩ := bcell ha2
  go_upto_region 12 with fail
  refine wp_region_noPanic ?_
  refine wp_region_T 9 (fun W => W.cell? ⟨g2, 0, none⟩ = some (.string X) ∧ W.cell? ⟨g2, 1, none⟩ = some (.string Y)) (by kernel_rfl) (by simp [go_sem, c2, c3]) (fun hHeld => ?_)
  (refine wpAnyT_take (i := 0) (v := ?_) (by rfl) (by kernel_rfl) (by kernel_rfl) (by kernel_rfl) (by kernel_rfl) (fun _ _ _ h => h) (Or.inl ⟨by rfl, ?_⟩) (by assumption) ?_; rotate_left; (focus (intro w hSw; (try dsimp only at hSw); go_simp; (try with_reducible rfl))); (try simp only [Act.put, List.setIfInBounds_toArray, List.set_cons_zero, List.set_cons_succ]))
  (refine wpAnyT_take (i := 1) (v := ?_) (by rfl) (by kernel_rfl) (by kernel_rfl) (by kernel_rfl) (by kernel_rfl) (fun _ _ _ h => h) (Or.inl ⟨by rfl, ?_⟩) (by assumption) ?_; rotate_left; (focus (intro w hSw; (try dsimp only at hSw); go_simp; (try with_reducible rfl))); (try simp only [Act.put, List.setIfInBounds_toArray, List.set_cons_zero, List.set_cons_succ]))
  (refine wpAnyT_take (i := 2) (v := ?_) (by rfl) (by kernel_rfl) (by kernel_rfl) (by kernel_rfl) (by kernel_rfl) (fun _ _ _ h => h) (Or.inl ⟨by rfl, ?_⟩) (by assumption) ?_; rotate_left; (focus (intro w hSw; (try dsimp only at hSw); go_simp; (try with_reducible rfl))); (try simp only [Act.put, List.setIfInBounds_toArray, List.set_cons_zero, List.set_cons_succ]))
  (refine wpAnyT_take (i := 4) (v := ?_) (by rfl) (by kernel_rfl) (by kernel_rfl) (by kernel_rfl) (by kernel_rfl) (fun _ _ _ h => h) (Or.inl ⟨by rfl, ?_⟩) (by assumption) ?_; rotate_left; (focus (intro w hSw; (try dsimp only at hSw); go_simp; (try with_reducible rfl))); (try simp only [Act.put, List.setIfInBounds_toArray, List.set_cons_zero, List.set_cons_succ]))
  (refine wpAnyT_take (i := 5) (v := ?_) (by rfl) (by kernel_rfl) (by kernel_rfl) (by kernel_rfl) (by kernel_rfl) (fun _ _ _ h => h) (Or.inl ⟨by rfl, ?_⟩) (by assumption) ?_; rotate_left; (focus (intro w hSw; (try dsimp only at hSw); go_simp; (try with_reducible rfl))); (try simp only [Act.put, List.setIfInBounds_toArray, List.set_cons_zero, List.set_cons_succ]))
  (refine wpAnyT_take (i := 6) (v := ?_) (by rfl) (by kernel_rfl) (by kernel_rfl) (by kernel_rfl) (by kernel_rfl) (fun _ _ _ h => h) (Or.inl ⟨by rfl, ?_⟩) (by assumption) ?_; rotate_left; (focus (intro w hSw; (try dsimp only at hSw); go_simp; (try with_reducible rfl))); (try simp only [Act.put, List.setIfInBounds_toArray, List.set_cons_zero, List.set_cons_succ]))
  (refine wpAnyT_one (i := 3) (by kernel_rfl) (by rfl) (fun K hK => ?_); go_simp; (refine (HX.out _).mono ?_; rintro e w0 ⟨rfl, rfl⟩); (try go_wp2_with fail); refine hK.out _ _ (Or.inr (by exact hHeld)) (fun hHeld => ?_); replace hHeld := hHeld.resolve_left (by decide); clear hK; clear K; (try simp only [Act.put, List.setIfInBounds_toArray, List.set_cons_zero, List.set_cons_succ]))
  (refine wpAnyT_one (i := 7) (by kernel_rfl) (by rfl) (fun K hK => ?_); go_simp; (refine (HY.out _).mono ?_; rintro e w0 ⟨rfl, rfl⟩); (try go_wp2_with fail); refine hK.out _ _ (Or.inr (by exact hHeld)) (fun hHeld => ?_); replace hHeld := hHeld.resolve_left (by decide); clear hK; clear K; (try simp only [Act.put, List.setIfInBounds_toArray, List.set_cons_zero, List.set_cons_succ]))
  (refine wpAnyT_take (i := 8) (v := ?_) (by rfl) (by kernel_rfl) (by kernel_rfl) (by kernel_rfl) (by kernel_rfl) (fun _ _ _ h => h) (Or.inl ⟨by rfl, ?_⟩) (by assumption) ?_; rotate_left; (focus (intro w hSw; (try dsimp only at hSw); go_simp; (try with_reducible rfl))); (try simp only [Act.put, List.setIfInBounds_toArray, List.set_cons_zero, List.set_cons_succ]))
  refine wpAnyT_one (i := 9) (by kernel_rfl) (by rfl) (fun K hK => ?_)
  go_simp
  refine hK.out _ _ (Or.inl rfl) (fun _ => ?_)
  refine wpAnyT_done (by kernel_rfl) ?_ _
  refine NoPanic.normal ?_
  (go_wp2_with fail; refine (HG.out _).mono ?_; rintro e w3 ⟨rfl, hb3⟩; have ha3 := bjoin ha2 hb3 (by (repeat (first | with_reducible exact Below.refl _ _ | with_reducible assumption | with_reducible refine balloc ?_ _ | with_reducible refine bdrew ?_ | with_reducible refine below_drewN ?_ _ | with_reducible refine bset ?_ ?_ _ | with_reducible exact Nat.le_refl _ | with_reducible refine bsize ?_ | (dsimp only; refine Nat.le_trans ?_ (Nat.le_add_right _ _)) | with_reducible refine Nat.le_trans ?_ (Nat.le_add_right _ _) | (with_reducible refine bstep ?_ (by assumption))))); obtain ⟨kc3, kf3, kz3, ky3, kx3, kv3, ku3⟩ := bcell hb3; obtain ⟨jc3, jf3, jz3, jy3, jx3, jv3, ju3⟩ := bcell ha3)
  (go_wp2_with fail; refine (HM.out _).mono ?_; rintro e w4 ⟨rfl, hb4⟩; have ha4 := bjoin ha3 hb4 (by (repeat (first | with_reducible exact Below.refl _ _ | with_reducible assumption | with_reducible refine balloc ?_ _ | with_reducible refine bdrew ?_ | with_reducible refine below_drewN ?_ _ | with_reducible refine bset ?_ ?_ _ | with_reducible exact Nat.le_refl _ | with_reducible refine bsize ?_ | (dsimp only; refine Nat.le_trans ?_ (Nat.le_add_right _ _)) | with_reducible refine Nat.le_trans ?_ (Nat.le_add_right _ _) | (with_reducible refine bstep ?_ (by assumption))))); obtain ⟨kc4, kf4, kz4, ky4, kx4, kv4, ku4⟩ := bcell hb4; obtain ⟨jc4, jf4, jz4, jy4, jx4, jv4, ju4⟩ := bcell ha4)
  go_wp2
  refine bodyPost_ret (v := .tuple #[.agg #[.int .i64 M1, .int .i64 M2], .bool M3]) (by simp only [results, Tryd.results23]; go_simp) rfl ⟨rfl, ?_⟩
  (repeat (first | with_reducible exact Below.refl _ _ | with_reducible assumption | with_reducible refine balloc ?_ _ | with_reducible refine bdrew ?_ | with_reducible refine below_drewN ?_ _ | with_reducible refine bset ?_ ?_ _ | with_reducible exact Nat.le_refl _ | with_reducible refine bsize ?_ | (dsimp only; refine Nat.le_trans ?_ (Nat.le_add_right _ _)) | with_reducible refine Nat.le_trans ?_ (Nat.le_add_right _ _) | (with_reducible refine bstep ?_ (by assumption))))
end Go.Proofs.YtffafiidblamkaaDoor
