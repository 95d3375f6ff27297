/- Camels: all parts of a way, of the model: the contract of caParts. -/
import Derived.Test.YtgmgifgbalcngaaCam7
import Derived.Test.YtgmgifgbalcngaaOrd
namespace Go.Proofs.Ytgmgifgbalcngaa
open Go.ChangeShapes Go.WideShapes Go.ChangeAt Go.RowKit Go.Joins
set_option maxRecDepth 100000
set_option linter.unusedVariables false
set_option linter.unusedSimpArgs false

set_option maxHeartbeats 3200000 in
theorem parts_spec (L E n d : Int) (t : Nat) (H : CamIn L E d n t) (ht : trp (L * d) n = t) (w : World) :
    Calls Try.prog 63 #[.agg #[.int .i64 L, .int .i64 E], .agg #[.int .i64 n, .int .i64 d]] w fun e w' => ∃ v, e = .returned (.tuple #[v, .agg #[.int .i64 (paX L E d n t t), .int .i64 (paY L E d n t t)]]) ∧ w'.ownsRow w.heap.size 90 6 v t (cellsG fPart (partsP L E d n t t)) ∧ Below w.heap.size w w' := by
  obtain ⟨i0, hi, hz0, hz1, hz2⟩ := info_parts infoPart
  have HT := Lib.hid (fun W => ctrips_spec L E n d H.L1 H.L2 H.d1 (by have := H.d2; omega) W)
  rw [ht] at HT
  have ta := H.ht.a
  have tb := H.ht.b
  have hdE := H.dE
  have Z := Lib.hid (pa_zero L E d n t (by omega))
  have HH := Lib.hid H
  clear hdE ht H
  go_enter Try.func63, Try.ntmps63
  go_wp2_with fail
  refine (HT.out _).mono ?_
  rintro e w1 ⟨rfl, hb1⟩
  have hP : PartSt w w1 L E 0 1 n d := PartSt.later (by constructor <;> first | (simp [go_sem]; done) | ((repeat (first | with_reducible exact Below.refl _ _ | with_reducible assumption | with_reducible refine balloc ?_ _ | with_reducible refine bdrew ?_ | with_reducible refine below_drewN ?_ _ | with_reducible refine bset ?_ ?_ _ | with_reducible exact Nat.le_refl _ | with_reducible refine bsize ?_ | (dsimp only; refine Nat.le_trans ?_ (Nat.le_add_right _ _)) | with_reducible refine Nat.le_trans ?_ (Nat.le_add_right _ _) | (with_reducible refine bstep ?_ (by assumption)))); done)) hb1
  clear hb1
  go_wp2_with fail
  go_loopw [6, 9, 10] (fun u c en wr => ∃ (i : Nat) (v : Value), v = u ∧ i ≤ t ∧ c = .int .i64 ((t : Int) - i) ∧ wr.ownsRow (w.heap.size + 1 + 1 + 1 + 1 + 1) 90 6 v i (cellsG fPart (partsP L E d n t i)) ∧
      PartSt w wr L E (paX L E d n t i) (paY L E d n t i) (paG L n t i) (paH d i)) (fun _ c _ _ => (intOf c).toNat)
  case atStart =>
    refine ⟨0, _, rfl, Nat.zero_le _, by simp, ⟨rfl, Or.inl ⟨rfl, rfl⟩⟩, ?_⟩
    rw [Z.out.1, Z.out.2]
    simpa [paG, paH] using hP
  case round =>
    obtain ⟨i, v, rfl, hit, rfl, hown, hP⟩ := hrel
    by_cases hlt : i < t
    · obtain ⟨k, hk⟩ : ∃ k, k + i + 1 = t := ⟨t - 1 - i, by omega⟩
      have H := HH.out
      have hB := pa_b H i k hk
      have hF := pa_fur H i k hk
      have hN := pa_next H i k hk
      have hS := partsP_succ L E d n t i
      have bX := pa_bd H i (by omega)
      have e1 : paG L n t (i + 1) = ((t : Int) - i - 1) * L := by unfold paG; rw [if_neg (by omega)]; congr 1; omega
      have e2 : paH d (i + 1) = 1 := by unfold paH; rw [if_neg (by omega)]
      have HR := Lib.hid (fun W => rate_spec L E ((t : Int) - i) (by omega) (by omega) H.E1 H.E2 W)
      have HF := Lib.hid (fun W => fur_spec _ _ _ _ hF W)
      rw [hN.1, hN.2] at HF
      have eR : (2 * ((t : Int) - i) - 1) * E = paR E t i := rfl
      rw [eR] at HR
      unfold partV at hS
      obtain ⟨g0, g1, h1, h2, r1, r2, en0, en1, f0, f1, m0, u1, u2⟩ := hB
      obtain ⟨x0, x1, y0, y1⟩ := bX
      have L1 := H.L1
      have L2 := H.L2
      clear hN hF eR H
      obtain ⟨x', hx'⟩ : ∃ x', paX L E d n t (i + 1) = x' := ⟨_, rfl⟩
      obtain ⟨y', hy'⟩ : ∃ y', paY L E d n t (i + 1) = y' := ⟨_, rfl⟩
      rw [hx', hy'] at HF
      have HX := Lib.hid hx'
      have HY := Lib.hid hy'
      have HD := Lib.hid hS
      have He1 := Lib.hid e1
      have He2 := Lib.hid e2
      have HK := Lib.hid (show (t : Int) - i - 1 = (t : Int) - ((i + 1 : Nat) : Int) by omega)
      have hT1 : 1 ≤ (t : Int) - i := by omega
      have hT6 : (t : Int) - i ≤ 6 := by omega
      clear hx' hy' hS e1 e2 hk
      generalize (t : Int) - i = T at *
      generalize paX L E d n t i = x at *
      generalize paY L E d n t i = y at *
      generalize paG L n t i = g at *
      generalize paH d i = h at *
      generalize paR E t i = R at *
      obtain ⟨xs, hxs⟩ : ∃ xs, cellsG fPart (partsP L E d n t i) = xs := ⟨_, rfl⟩
      rw [hxs] at hown
      obtain ⟨en, hen⟩ : ∃ en, (T - 1) * L = en := ⟨_, rfl⟩
      rw [hen] at HF HD He1 en0 en1 f0 f1 m0
      have ne := own_ne hown (b := w.heap.size + 1 + 1 + 1) (by omega)
      have nb := own_ne hown (b := w.heap.size + 1 + 1 + 1 + 1) (by omega)
      have hPc := hP
      obtain ⟨q1, q2, q3, q4, q5, q6, q7, q8, q9, q10, q11, q12, q13, q14, q15, q16⟩ := hPc
      have hi20 : i ≤ 20 := by omega
      have HS8 := Lib.hid (fun (W : World) (h' : PartSt w W L E x y g h) => (⟨h'.c0, h'.c1, h'.a0, h'.a1, h'.b0, h'.b1⟩ : W.cell? ⟨w.heap.size, 0, none⟩ = some (.int .i64 L) ∧ W.cell? ⟨w.heap.size, 1, none⟩ = some (.int .i64 E) ∧ W.cell? ⟨w.heap.size + 1 + 1 + 1, 0, none⟩ = some (.int .i64 x) ∧ W.cell? ⟨w.heap.size + 1 + 1 + 1, 1, none⟩ = some (.int .i64 y) ∧ W.cell? ⟨w.heap.size + 1 + 1 + 1 + 1, 0, none⟩ = some (.int .i64 g) ∧ W.cell? ⟨w.heap.size + 1 + 1 + 1 + 1, 1, none⟩ = some (.int .i64 h)))
      go_upto_region 8 with fail
      clear hen
      go_region_held_law (fun W => W.cell? ⟨w.heap.size, 0, none⟩ = some (.int .i64 L) ∧ W.cell? ⟨w.heap.size, 1, none⟩ = some (.int .i64 E) ∧ W.cell? ⟨w.heap.size + 1 + 1 + 1, 0, none⟩ = some (.int .i64 x) ∧ W.cell? ⟨w.heap.size + 1 + 1 + 1, 1, none⟩ = some (.int .i64 y) ∧ W.cell? ⟨w.heap.size + 1 + 1 + 1 + 1, 0, none⟩ = some (.int .i64 g) ∧ W.cell? ⟨w.heap.size + 1 + 1 + 1 + 1, 1, none⟩ = some (.int .i64 h))
        ((refine HS8.out _ ?_; first | with_reducible assumption | exact PartSt.later (by with_reducible assumption) (by (repeat (first | with_reducible exact Below.refl _ _ | with_reducible assumption | with_reducible refine balloc ?_ _ | with_reducible refine bdrew ?_ | with_reducible refine below_drewN ?_ _ | with_reducible refine bset ?_ ?_ _ | with_reducible exact Nat.le_refl _ | with_reducible refine bsize ?_ | (dsimp only; refine Nat.le_trans ?_ (Nat.le_add_right _ _)) | with_reducible refine Nat.le_trans ?_ (Nat.le_add_right _ _) | (with_reducible refine bstep ?_ (by assumption)))))))
        (first | (go_at_call 50; refine (HR.out _).mono ?_; rintro e w3 ⟨rfl, hb3⟩; (have hP3 := PartSt.later hP (bstep (by (repeat (first | with_reducible exact Below.refl _ _ | with_reducible assumption | with_reducible refine balloc ?_ _ | with_reducible refine bdrew ?_ | with_reducible refine below_drewN ?_ _ | with_reducible refine bset ?_ ?_ _ | with_reducible exact Nat.le_refl _ | with_reducible refine bsize ?_ | (dsimp only; refine Nat.le_trans ?_ (Nat.le_add_right _ _)) | with_reducible refine Nat.le_trans ?_ (Nat.le_add_right _ _) | (with_reducible refine bstep ?_ (by assumption))))) hb3)); (have own3 := ownsRow_below hown (bstep (by (repeat (first | with_reducible exact Below.refl _ _ | with_reducible assumption | with_reducible refine balloc ?_ _ | with_reducible refine bdrew ?_ | with_reducible refine below_drewN ?_ _ | with_reducible refine bset ?_ ?_ _ | with_reducible exact Nat.le_refl _ | with_reducible refine bsize ?_ | (dsimp only; refine Nat.le_trans ?_ (Nat.le_add_right _ _)) | with_reducible refine Nat.le_trans ?_ (Nat.le_add_right _ _) | (with_reducible refine bstep ?_ (by assumption))))) hb3)); (have hz3 := hP3.hs); (have hz3' : w.heap.size + 1 + 1 + 1 + 1 + 1 ≤ w3.heap.size := by omega)) | (refine step_append_own rfl (.tmp 32) (.tmp 40) 86 rfl (w.heap.size + 1 + 1 + 1 + 1 + 1) 90 i0 (.agg #[.int .i64 0, .int .i64 0, .int .i64 0, .int .i64 0, .int .i64 0, .int .i64 0]) 6 48 Try.underlying86 hi hz0 hz1 hz2 rfl (by decide) v i xs ?kk6 ?own ⟨w3.heap.size, 0, none⟩ 1 1 [.int .i64 x, .int .i64 y, .int .i64 g, .int .i64 h, .int .i64 R, .int .i64 en] ?kk7 rfl ?kk1 ?kk2 ?kk3 ?kk4 ?kk5 ?_; (case own => (repeat (first | with_reducible assumption | with_reducible refine own_alloc ?_ _ | with_reducible refine own_drew ?_ | with_reducible refine own_set ?_ ?_ _))); (case kk1 => first | exact cell_six_new _ _ _ _ _ _ _ _ | simp [go_sem]); (case kk2 => simp [Value.oneCell']); (case kk3 => unfold maxLen; omega); (case kk4 => omega); (case kk5 => first | (simp; done) | (simp; omega)); (case kk6 => simp [Act.eval, Act.put]); (case kk7 => simp [Act.eval, Act.put]); intro v' w4 hown' hgrow; (have hP4 := PartSt.grown (e := 90) (size := 6) (n := i) (v := v) (xs := xs) (PartSt.later hP3 (by (repeat (first | with_reducible exact Below.refl _ _ | with_reducible assumption | with_reducible refine balloc ?_ _ | with_reducible refine bdrew ?_ | with_reducible refine below_drewN ?_ _ | with_reducible refine bset ?_ ?_ _ | with_reducible exact Nat.le_refl _ | with_reducible refine bsize ?_ | (dsimp only; refine Nat.le_trans ?_ (Nat.le_add_right _ _)) | with_reducible refine Nat.le_trans ?_ (Nat.le_add_right _ _) | (with_reducible refine bstep ?_ (by assumption)))))) hgrow (by (repeat (first | with_reducible assumption | with_reducible refine own_alloc ?_ _ | with_reducible refine own_drew ?_ | with_reducible refine own_set ?_ ?_ _))))))
      all_goals
        have hown2 : w4.ownsRow (w.heap.size + 1 + 1 + 1 + 1 + 1) 90 6 v' (i + 1) (cellsG fPart (partsP L E d n t (i + 1))) := by
          rw [HD.out, cellsG_snoc, hxs]; simpa [fPart] using hown'
        have ne4 := own_ne hown2 (b := w.heap.size + 1 + 1 + 1) (by omega)
        have nb4 := own_ne hown2 (b := w.heap.size + 1 + 1 + 1 + 1) (by omega)
        clear q1 q2 q3 q4 q5 q6 q7 q8 q9 q10 q11 q12 q13 q14 q15 q16
        try clear hown' hgrow
        try clear own3 hP3 hz3 hz3'
        try clear hown hP
        have wq1 := IntWalk.i64_in (en * h) (by omega)
        have wq2 := IntWalk.i64_in (g - en * h) (by omega)
        have wq3 := IntWalk.i64_in (h * R) (by omega)
        go_upto_region 9 with fail
        refine wp_region_noPanic ?_
        refine wp_region_T 15 (fun W => W.cell? ⟨w.heap.size, 0, none⟩ = some (.int .i64 L) ∧ W.cell? ⟨w.heap.size, 1, none⟩ = some (.int .i64 E) ∧ W.cell? ⟨w.heap.size + 1 + 1 + 1, 0, none⟩ = some (.int .i64 x) ∧ W.cell? ⟨w.heap.size + 1 + 1 + 1, 1, none⟩ = some (.int .i64 y) ∧ W.cell? ⟨w.heap.size + 1 + 1 + 1 + 1, 0, none⟩ = some (.int .i64 g) ∧ W.cell? ⟨w.heap.size + 1 + 1 + 1 + 1, 1, none⟩ = some (.int .i64 h)) (by kernel_rfl) (HS8.out _ (PartSt.drew hP4)) (fun hHeld => ?_)
        (refine wpAnyT_take (i := 0) (v := ?_) (by rfl) (by kernel_rfl) (by kernel_rfl) (by kernel_rfl) (by kernel_rfl) (fun _ _ _ h => h) (Or.inl ⟨by rfl, ?_⟩) (by assumption) ?_; rotate_left; (focus (intro w hSw; (try dsimp only at hSw); go_simp; (try with_reducible rfl))); (try simp only [Act.put, List.setIfInBounds_toArray, List.set_cons_zero, List.set_cons_succ]))
        (refine wpAnyT_take (i := 1) (v := ?_) (by rfl) (by kernel_rfl) (by kernel_rfl) (by kernel_rfl) (by kernel_rfl) (fun _ _ _ h => h) (Or.inl ⟨by rfl, ?_⟩) (by assumption) ?_; rotate_left; (focus (intro w hSw; (try dsimp only at hSw); go_simp; (try with_reducible rfl))); (try simp only [Act.put, List.setIfInBounds_toArray, List.set_cons_zero, List.set_cons_succ]))
        (refine wpAnyT_take (i := 2) (v := ?_) (by rfl) (by kernel_rfl) (by kernel_rfl) (by kernel_rfl) (by kernel_rfl) (fun _ _ _ h => h) (Or.inl ⟨by rfl, ?_⟩) (by assumption) ?_; rotate_left; (focus (intro w hSw; (try dsimp only at hSw); go_simp; (try with_reducible rfl))); (try simp only [Act.put, List.setIfInBounds_toArray, List.set_cons_zero, List.set_cons_succ]))
        (refine wpAnyT_take (i := 3) (v := ?_) (by rfl) (by kernel_rfl) (by kernel_rfl) (by kernel_rfl) (by kernel_rfl) (fun _ _ _ h => h) (Or.inl ⟨by rfl, ?_⟩) (by assumption) ?_; rotate_left; (focus (intro w hSw; (try dsimp only at hSw); go_simp; (try with_reducible rfl))); (try simp only [Act.put, List.setIfInBounds_toArray, List.set_cons_zero, List.set_cons_succ]))
        (refine wpAnyT_take (i := 4) (v := ?_) (by rfl) (by kernel_rfl) (by kernel_rfl) (by kernel_rfl) (by kernel_rfl) (fun _ _ _ h => h) (Or.inl ⟨by rfl, ?_⟩) (by assumption) ?_; rotate_left; (focus (intro w hSw; (try dsimp only at hSw); go_simp; (try with_reducible rfl))); (try simp only [Act.put, List.setIfInBounds_toArray, List.set_cons_zero, List.set_cons_succ]))
        (refine wpAnyT_take (i := 5) (v := ?_) (by rfl) (by kernel_rfl) (by kernel_rfl) (by kernel_rfl) (by kernel_rfl) (fun _ _ _ h => h) (Or.inl ⟨by rfl, ?_⟩) (by assumption) ?_; rotate_left; (focus (intro w hSw; (try dsimp only at hSw); go_simp; (try with_reducible rfl))); (try simp only [Act.put, List.setIfInBounds_toArray, List.set_cons_zero, List.set_cons_succ]))
        (refine wpAnyT_take (i := 6) (v := ?_) (by rfl) (by kernel_rfl) (by kernel_rfl) (by kernel_rfl) (by kernel_rfl) (fun _ _ _ h => h) (Or.inl ⟨by rfl, ?_⟩) (by assumption) ?_; rotate_left; (focus (intro w hSw; (try dsimp only at hSw); go_simp; (try with_reducible rfl))); (try simp only [Act.put, List.setIfInBounds_toArray, List.set_cons_zero, List.set_cons_succ]))
        (refine wpAnyT_take (i := 7) (v := ?_) (by rfl) (by kernel_rfl) (by kernel_rfl) (by kernel_rfl) (by kernel_rfl) (fun _ _ _ h => h) (Or.inl ⟨by rfl, ?_⟩) (by assumption) ?_; rotate_left; (focus (intro w hSw; (try dsimp only at hSw); go_simp; (try with_reducible rfl))); (try simp only [Act.put, List.setIfInBounds_toArray, List.set_cons_zero, List.set_cons_succ]))
        (refine wpAnyT_take (i := 8) (v := ?_) (by rfl) (by kernel_rfl) (by kernel_rfl) (by kernel_rfl) (by kernel_rfl) (fun _ _ _ h => h) (Or.inl ⟨by rfl, ?_⟩) (by assumption) ?_; rotate_left; (focus (intro w hSw; (try dsimp only at hSw); go_simp; (try with_reducible rfl))); (try simp only [Act.put, List.setIfInBounds_toArray, List.set_cons_zero, List.set_cons_succ]))
        (refine wpAnyT_take (i := 9) (v := ?_) (by rfl) (by kernel_rfl) (by kernel_rfl) (by kernel_rfl) (by kernel_rfl) (fun _ _ _ h => h) (Or.inl ⟨by rfl, ?_⟩) (by assumption) ?_; rotate_left; (focus (intro w hSw; (try dsimp only at hSw); go_simp; (try with_reducible rfl))); (try simp only [Act.put, List.setIfInBounds_toArray, List.set_cons_zero, List.set_cons_succ]))
        (refine wpAnyT_take (i := 10) (v := ?_) (by rfl) (by kernel_rfl) (by kernel_rfl) (by kernel_rfl) (by kernel_rfl) (fun _ _ _ h => h) (Or.inl ⟨by rfl, ?_⟩) (by assumption) ?_; rotate_left; (focus (intro w hSw; (try dsimp only at hSw); go_simp; (try with_reducible rfl))); (try simp only [Act.put, List.setIfInBounds_toArray, List.set_cons_zero, List.set_cons_succ]))
        (refine wpAnyT_take (i := 11) (v := ?_) (by rfl) (by kernel_rfl) (by kernel_rfl) (by kernel_rfl) (by kernel_rfl) (fun _ _ _ h => h) (Or.inl ⟨by rfl, ?_⟩) (by assumption) ?_; rotate_left; (focus (intro w hSw; (try dsimp only at hSw); go_simp; (try with_reducible rfl))); (try simp only [Act.put, List.setIfInBounds_toArray, List.set_cons_zero, List.set_cons_succ]))
        (refine wpAnyT_one (i := 12) (by kernel_rfl) (by rfl) (fun K hK => ?_); go_simp; (go_at_call 50; refine (HR.out _).mono ?_; rintro e w5 ⟨rfl, hb5⟩; (have hP5 := PartSt.later hP4 (bstep (by (repeat (first | with_reducible exact Below.refl _ _ | with_reducible assumption | with_reducible refine balloc ?_ _ | with_reducible refine bdrew ?_ | with_reducible refine below_drewN ?_ _ | with_reducible refine bset ?_ ?_ _ | with_reducible exact Nat.le_refl _ | with_reducible refine bsize ?_ | (dsimp only; refine Nat.le_trans ?_ (Nat.le_add_right _ _)) | with_reducible refine Nat.le_trans ?_ (Nat.le_add_right _ _) | (with_reducible refine bstep ?_ (by assumption))))) hb5)); (have own5 := ownsRow_below hown2 (bstep (by (repeat (first | with_reducible exact Below.refl _ _ | with_reducible assumption | with_reducible refine balloc ?_ _ | with_reducible refine bdrew ?_ | with_reducible refine below_drewN ?_ _ | with_reducible refine bset ?_ ?_ _ | with_reducible exact Nat.le_refl _ | with_reducible refine bsize ?_ | (dsimp only; refine Nat.le_trans ?_ (Nat.le_add_right _ _)) | with_reducible refine Nat.le_trans ?_ (Nat.le_add_right _ _) | (with_reducible refine bstep ?_ (by assumption))))) hb5))); (try go_wp2_with fail); refine hK.out _ _ (Or.inr (by exact HS8.out _ hP5)) (fun hHeld => ?_); replace hHeld := hHeld.resolve_left (by decide); clear hK; clear K; (try simp only [Act.put, List.setIfInBounds_toArray, List.set_cons_zero, List.set_cons_succ]))
        (refine wpAnyT_take (i := 13) (v := ?_) (by rfl) (by kernel_rfl) (by kernel_rfl) (by kernel_rfl) (by kernel_rfl) (fun _ _ _ h => h) (Or.inl ⟨by rfl, ?_⟩) (by assumption) ?_; rotate_left; (focus (intro w hSw; (try dsimp only at hSw); go_simp; (try with_reducible rfl))); (try simp only [Act.put, List.setIfInBounds_toArray, List.set_cons_zero, List.set_cons_succ]))
        (refine wpAnyT_one (i := 14) (by kernel_rfl) (by rfl) (fun K hK => ?_); go_simp; (go_at_call 69; refine (HF.out _).mono ?_; rintro e w6 ⟨rfl, hb6⟩; (have hP6 := PartSt.later hP5 (bstep (by (repeat (first | with_reducible exact Below.refl _ _ | with_reducible assumption | with_reducible refine balloc ?_ _ | with_reducible refine bdrew ?_ | with_reducible refine below_drewN ?_ _ | with_reducible refine bset ?_ ?_ _ | with_reducible exact Nat.le_refl _ | with_reducible refine bsize ?_ | (dsimp only; refine Nat.le_trans ?_ (Nat.le_add_right _ _)) | with_reducible refine Nat.le_trans ?_ (Nat.le_add_right _ _) | (with_reducible refine bstep ?_ (by assumption))))) hb6)); (have own6 := ownsRow_below own5 (bstep (by (repeat (first | with_reducible exact Below.refl _ _ | with_reducible assumption | with_reducible refine balloc ?_ _ | with_reducible refine bdrew ?_ | with_reducible refine below_drewN ?_ _ | with_reducible refine bset ?_ ?_ _ | with_reducible exact Nat.le_refl _ | with_reducible refine bsize ?_ | (dsimp only; refine Nat.le_trans ?_ (Nat.le_add_right _ _)) | with_reducible refine Nat.le_trans ?_ (Nat.le_add_right _ _) | (with_reducible refine bstep ?_ (by assumption))))) hb6))); (try go_wp2_with fail); refine hK.out _ _ (Or.inr (by exact HS8.out _ hP6)) (fun hHeld => ?_); replace hHeld := hHeld.resolve_left (by decide); clear hK; clear K; (try simp only [Act.put, List.setIfInBounds_toArray, List.set_cons_zero, List.set_cons_succ]))
        have hPe := hP6
        obtain ⟨z1, z2, z3, z4, z5, z6, z7, z8, z9, z10, z11, z12, z13, z14, z15, z16⟩ := hPe
        refine wpAnyT_one (i := 15) (by kernel_rfl) (by rfl) (fun K hK => ?_)
        go_simp
        refine hK.out _ _ (Or.inl rfl) (fun _ => ?_)
        refine wpAnyT_done (by kernel_rfl) ?_ _
        refine NoPanic.normal ?_
        all_goals
          go_wp2
          go_roundw
          case rel =>
            refine ⟨i + 1, _, rfl, by omega, by rw [← HK.out], ?_, ?_⟩
            · (repeat (first | with_reducible assumption | with_reducible refine own_alloc ?_ _ | with_reducible refine own_drew ?_ | with_reducible refine own_set ?_ ?_ _))
            · rw [HX.out, HY.out, He1.out, He2.out]
              (repeat (first | with_reducible assumption | with_reducible refine PartSt.drew ?_ | with_reducible refine PartSt.alloc ?_ _ | with_reducible refine PartSt.setA (x := x) (y := y) ?_ _ _ | with_reducible refine PartSt.setB (g := g) (h := h) ?_ _ _))
          case measure => first | (simp [intOf]; done) | (simp [intOf]; omega)
    · have hit' : i = t := by omega
      subst hit'
      rw [show (i : Int) - (i : Int) = 0 by omega]
      have hPc := hP
      obtain ⟨q1, q2, q3, q4, q5, q6, q7, q8, q9, q10, q11, q12, q13, q14, q15, q16⟩ := hPc
      generalize hx : paX L E d n i i = x at *
      generalize hy : paY L E d n i i = y at *
      generalize hxs : cellsG fPart (partsP L E d n i i) = xs at *
      have HX := Lib.hid hx
      have HY := Lib.hid hy
      have HXS := Lib.hid hxs
      clear hx hy hxs
      generalize paG L n i i = g at *
      generalize paH d i = h at *
      have nr := own_ne hown (b := w.heap.size + 1 + 1) (by omega)
      go_wp2
      go_region
      all_goals go_wp2
      all_goals refine bodyPost_ret (v := .tuple #[v, .agg #[.int .i64 x, .int .i64 y]]) (by simp only [results, Try.results63]; go_simp) rfl ⟨v, by rw [HX.out, HY.out], by rw [HXS.out]; refine own_mono (base := w.heap.size + 1 + 1 + 1 + 1 + 1) ?_ (by omega); (repeat (first | with_reducible assumption | with_reducible refine own_alloc ?_ _ | with_reducible refine own_drew ?_ | with_reducible refine own_set ?_ ?_ _)), ?_⟩
      all_goals (repeat (first | with_reducible exact Below.refl _ _ | with_reducible assumption | with_reducible refine balloc ?_ _ | with_reducible refine bdrew ?_ | with_reducible refine below_drewN ?_ _ | with_reducible refine bset ?_ ?_ _ | with_reducible exact Nat.le_refl _ | with_reducible refine bsize ?_ | (dsimp only; refine Nat.le_trans ?_ (Nat.le_add_right _ _)) | with_reducible refine Nat.le_trans ?_ (Nat.le_add_right _ _) | (with_reducible refine bstep ?_ (by assumption))))
end Go.Proofs.Ytgmgifgbalcngaa
