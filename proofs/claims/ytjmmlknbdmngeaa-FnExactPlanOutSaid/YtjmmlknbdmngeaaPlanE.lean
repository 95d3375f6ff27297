/- Plans: PlanOut of the program. -/
import Derived.Test.YtjmmlknbdmngeaaPlanD
import Derived.Test.YtjmmlknbdmngeaaCarD
import Derived.Test.YtjmmlknbdmngeaaAns
namespace Go.Proofs.Ytjmmlknbdmngeaa
open Go.ChangeShapes Go.WideShapes Go.ChangeAt Go.RowKit Go.Joins
set_option maxRecDepth 100000
set_option linter.unusedVariables false
set_option linter.unusedSimpArgs false


/-- The plan of t tanks, out, behind i depots. -/
def poS (t : Nat) : Nat → PlS
  | 0 => ⟨[], 0, 1⟩
  | i + 1 => pBring (poS t i) 1 (2 * ((t - 1 - i : Nat) : Int) + 1) (2 * ((t - 1 - i : Nat) : Int) - 1) (2 * ((t - 1 - i : Nat) : Int) + 1) (t - 1 - i)
def poOk (t : Nat) : Bool :=
  (List.range (t - 1)).all (fun i => okBring (poS t i) 1 (2 * ((t - 1 - i : Nat) : Int) + 1) (2 * ((t - 1 - i : Nat) : Int) - 1) (2 * ((t - 1 - i : Nat) : Int) + 1) (t - 1 - i)) && (okFill (poS t (t - 1)) && okS (pFill (poS t (t - 1))))
theorem po_all : ∀ t, t < 5 → 0 < t → poOk t = true := by decide +kernel
theorem po_parts (t : Nat) (h1 : t < 5) (h0 : 0 < t) : (∀ i, i < t - 1 → okBring (poS t i) 1 (2 * ((t - 1 - i : Nat) : Int) + 1) (2 * ((t - 1 - i : Nat) : Int) - 1) (2 * ((t - 1 - i : Nat) : Int) + 1) (t - 1 - i) = true) ∧ okFill (poS t (t - 1)) = true ∧ okS (pFill (poS t (t - 1))) = true := by
  have h := po_all t h1 h0
  simp only [poOk, Bool.and_eq_true, List.all_eq_true, List.mem_range] at h
  exact ⟨h.1, h.2.1, h.2.2⟩
def poL (t : Int) : List StepV := if inB t 1 4 = true then (pAdd (pFill (poS t.toNat (t.toNat - 1))) 0 1 1).l else []
theorem poL_no (t : Int) (h : inB t 1 4 = false) : poL t = [] := by simp [poL, h]
theorem poL_yes (t : Nat) (h : inB (t : Int) 1 4 = true) : poL t = (pAdd (pFill (poS t (t - 1))) 0 1 1).l := by simp [poL, h]
theorem po_len : ∀ t, t < 5 → (decide ((pAdd (pFill (poS t (t - 1))) 0 1 1).l.length ≤ 1000)) = true := by decide +kernel
theorem planOut_len (t : Int) : (poL t).length ≤ 1000 := by
  cases h : inB t 1 4
  · rw [poL_no t h]; simp
  · have hb : 1 ≤ t ∧ t ≤ 4 := by simpa [inB] using h
    obtain ⟨n, rfl⟩ := Int.eq_ofNat_of_zero_le (show 0 ≤ t by omega)
    rw [poL_yes n h]
    simpa using po_len n (by omega)
theorem own_keep {g base n : Nat} {v : Value} {xs : List Value} {w w' : World} (h : w.ownsRow base 23 2 v n xs) (hk : PlanKeep g w w') (hv : v.ownBlock ≠ some g) : w'.ownsRow base 23 2 v n xs := by
  obtain ⟨h1, h2⟩ := h
  refine ⟨h1, ?_⟩
  rcases h2 with h2 | ⟨g', cap, cur, rfl, h3, h4, h5⟩
  · exact Or.inl h2
  · refine Or.inr ⟨g', cap, cur, rfl, h3, ?_, h5⟩
    have hne : g' ≠ g := fun e => hv (by rw [e]; rfl)
    have hlt : g' < w.heap.size := (Array.getElem?_eq_some_iff.1 h4).1
    have hns : ¬ StepBlk w g' := by
      rintro ⟨cs, fz, e⟩
      rw [h4] at e
      simp at e
    rw [hk.block g' hlt hne hns]
    exact h4
set_option maxHeartbeats 3200000 in
theorem planOut_impl (t : Int) (bt : -9223372036854775808 ≤ t ∧ t ≤ 9223372036854775807) (w : World) :
    Calls Try.prog 48 #[.int .i64 t] w (AnsG 49 3 fStep (poL t) (inB t 1 4) w) := by
  cases hk : inB t 1 4
  · rw [poL_no t hk]
    go_enter Try.func48, Try.ntmps48
    go_wp2_with (go_at_call 54; refine (in_impl _ _ _ _).mono ?_; rintro e w1 ⟨rfl, rfl⟩; rw [hk])
    go_ret2
    refine ⟨_, rfl, ⟨rfl, Or.inl ⟨rfl, rfl⟩⟩, ?_⟩
    (repeat (first | with_reducible exact Below.refl _ _ | with_reducible assumption | with_reducible refine balloc ?_ _ | with_reducible refine bdrew ?_ | with_reducible refine below_drewN ?_ _ | with_reducible refine bset ?_ ?_ _ | with_reducible exact Nat.le_refl _ | with_reducible refine bsize ?_ | (dsimp only; refine Nat.le_trans ?_ (Nat.le_add_right _ _)) | with_reducible refine Nat.le_trans ?_ (Nat.le_add_right _ _) | (with_reducible refine bstep ?_ (by assumption))))
  · have hb : 1 ≤ t ∧ t ≤ 4 := by simpa [inB] using hk
    obtain ⟨n, rfl⟩ := Int.eq_ofNat_of_zero_le (show 0 ≤ t by omega)
    have hn1 : 1 ≤ n := by omega
    have hn2 : n ≤ 4 := by omega
    rw [poL_yes n hk]
    obtain ⟨hbr, hfl, hls⟩ := po_parts n (by omega) hn1
    have htk : tkOk (n : Int) = true := by simp [tkOk, inB]; omega
    have hD := fun W : World => depotsOut_impl (n : Int) bt W
    have hC := fun W : World => carriesOut_impl (n : Int) bt W
    have eD : dpL 1 (n : Int) = dpP 1 n (n - 1) := by simp [dpL, htk]
    have eC : crL (n : Int) = crP n (n - 1) := by simp [crL, htk]
    rw [eD, htk] at hD
    rw [eC, htk] at hC
    have HDD := Lib.hid hD
    have HCC := Lib.hid hC
    have HBR := Lib.hid hbr
    clear hD hC eD eC hbr htk
    go_enter Try.func48, Try.ntmps48
    go_wp2_with (go_at_call 54; refine (in_impl _ _ _ _).mono ?_; rintro e w1 ⟨rfl, rfl⟩; rw [hk])
    refine (HDD.out _).mono ?_
    rintro e w1 ⟨vd, rfl, ownD, hb1⟩
    go_wp2_with fail
    refine (HCC.out _).mono ?_
    rintro e w2 ⟨vc, rfl, ownC, hb2⟩
    replace ownD := ownsRow_below ownD hb2
    have bel2 : Below w.heap.size w w2 := bstep hb1 hb2
    rw [dpP_len] at ownD
    rw [crP_len] at ownC
    go_wp2_with (go_at_call 88; refine (whole_is_impl _ _).mono ?_; rintro e w3 ⟨rfl, rfl⟩)
    have hP0 : PlanAt (w2.heap.size + 1) ((w2.alloc (.cells #[.int .i64 0, .int .i64 1] 23)).alloc (.cells #[.slice none 0 0, .int .i64 0, .int .i64 1] 112)) (poS n 0) :=
      ⟨.slice none 0 0, by simp [go_sem], by simp [go_sem, poS], by simp [go_sem, poS], by simp [go_sem], by simp [go_sem], by simp [go_sem], ⟨rfl, Or.inl ⟨rfl, rfl⟩⟩, by simp⟩
    have ownD3 : ((w2.alloc (.cells #[.int .i64 0, .int .i64 1] 23)).alloc (.cells #[.slice none 0 0, .int .i64 0, .int .i64 1] 112)).ownsRow w.heap.size 75 4 vd (n - 1) (cellsG fDepot (dpP 1 n (n - 1))) := own_alloc (own_alloc ownD _) _
    have ownC3 : ((w2.alloc (.cells #[.int .i64 0, .int .i64 1] 23)).alloc (.cells #[.slice none 0 0, .int .i64 0, .int .i64 1] 112)).ownsRow w1.heap.size 23 2 vc (n - 1) (cellsG fAmt (crP n (n - 1))) := own_alloc (own_alloc ownC _) _
    have ltC : ∀ b, vc.ownBlock = some b → b < w2.heap.size := fun b e => own_lt ownC e
    go_wp2_with fail
    refine (ways_impl n (by omega) vd w _ _ ownD3 (dpP_bd n (by omega))).mono ?_
    rintro e w4 ⟨vw, rfl, ownW, hb4⟩
    replace ownC := ownsRow_below ownC3 hb4
    have hP4 : PlanAt (w2.heap.size + 1) w4 (poS n 0) := by
      obtain ⟨v, hv⟩ := hP0
      exact ⟨v, hv.later hb4⟩
    have bel4 : Below w.heap.size w w4 := by (repeat (first | with_reducible exact Below.refl _ _ | with_reducible assumption | with_reducible refine balloc ?_ _ | with_reducible refine bdrew ?_ | with_reducible refine below_drewN ?_ _ | with_reducible refine bset ?_ ?_ _ | with_reducible exact Nat.le_refl _ | with_reducible refine bsize ?_ | (dsimp only; refine Nat.le_trans ?_ (Nat.le_add_right _ _)) | with_reducible refine Nat.le_trans ?_ (Nat.le_add_right _ _) | (with_reducible refine bstep ?_ (by assumption))))
    have sz4 : w2.heap.size + 1 < w4.heap.size := Nat.lt_of_lt_of_le (by simp) hb4.size
    have neW : vw.ownBlock ≠ some (w2.heap.size + 1) := own_ne ownW (by simp)
    have neC : vc.ownBlock ≠ some (w2.heap.size + 1) := fun e => by have := ltC _ e; omega
    obtain ⟨aw, cw, rfl⟩ := owns_shape ownW
    obtain ⟨ac, cc, rfl⟩ := owns_shape ownC
    obtain ⟨bW, hbW⟩ : ∃ bW, bW = ((w2.alloc (.cells #[.int .i64 0, .int .i64 1] 23)).alloc (.cells #[.slice none 0 0, .int .i64 0, .int .i64 1] 112)).heap.size := ⟨_, rfl⟩
    rw [← hbW] at ownW
    obtain ⟨bC, hbC⟩ : ∃ bC, bC = w1.heap.size := ⟨_, rfl⟩
    rw [← hbC] at ownC
    have wg : w.heap.size ≤ w2.heap.size := bel2.size
    obtain ⟨g, hg⟩ : ∃ g, g = w2.heap.size + 1 := ⟨_, rfl⟩
    rw [← hg] at hP4 sz4 neW neC ⊢
    have wg2 : w.heap.size ≤ g := by omega
    clear ownD ownD3 ownC3 ltC hb1 hb2 hb4 bel2 hP0 hbW hbC hg wg
    go_wp2
    go_loopw [29] (fun c wr => ∃ i : Nat, i ≤ n - 1 ∧ c = .int .i64 i ∧ PlanAt g wr (poS n i) ∧ wr.ownsRow bW 23 2 (.slice aw (n - 1) cw) (n - 1) (cellsG fAmt (pL 1 n (n - 1))) ∧ wr.ownsRow bC 23 2 (.slice ac (n - 1) cc) (n - 1) (cellsG fAmt (crP n (n - 1))) ∧ g < wr.heap.size ∧ Below w.heap.size w wr) (fun c _ => n - 1 - (intOf c).toNat)
    case atStart => exact ⟨0, Nat.zero_le _, rfl, hP4, ownW, ownC, sz4, bel4⟩
    case round =>
      clear hP4 ownW ownC sz4 bel4
      obtain ⟨i, hit, rfl, hP, ownW, ownC, sz, bel⟩ := hrel
      by_cases hlt : i < n - 1
      · obtain ⟨k, hkk⟩ : ∃ k : Nat, k + i + 1 = n := ⟨n - 1 - i, by omega⟩
        obtain ⟨gw, rfl⟩ : ∃ gw, aw = some ⟨gw, 0, none⟩ := by
          rcases ownW.2 with ⟨_, h0⟩ | ⟨g, cap, cur, hv, _⟩
          · omega
          · injection hv with h1 _ _; exact ⟨g, h1⟩
        obtain ⟨gc, rfl⟩ : ∃ gc, ac = some ⟨gc, 0, none⟩ := by
          rcases ownC.2 with ⟨_, h0⟩ | ⟨g, cap, cur, hv, _⟩
          · omega
          · injection hv with h1 _ _; exact ⟨g, h1⟩
        have hpa : (pL 1 n (n - 1))[i]? = some (1, 2 * (k : Int) + 1) := by
          rw [pL_get 1 n (n - 1) i hlt (by omega), pL_at 1 n i (by omega), show n - 1 - i = k by omega]; rfl
        have hca : (crP n (n - 1))[i]? = some (2 * (k : Int) - 1, 2 * (k : Int) + 1) := by
          simp only [crP, List.getElem?_map, List.getElem?_range hlt, Option.map_some]
          rw [show n - 1 - i = k by omega]
        have x0 : wr.cell? ⟨gw, i * 2, none⟩ = some (.int .i64 1) := (ownW.cellAt _ (by omega)).trans (cellsG_get fAmt_len _ i _ hpa 0 _ rfl)
        have x1 : wr.cell? ⟨gw, i * 2 + 1, none⟩ = some (.int .i64 (2 * (k : Int) + 1)) := (ownW.cellAt _ (by omega)).trans (cellsG_get fAmt_len _ i _ hpa 1 _ rfl)
        have y0 : wr.cell? ⟨gc, i * 2, none⟩ = some (.int .i64 (2 * (k : Int) - 1)) := (ownC.cellAt _ (by omega)).trans (cellsG_get fAmt_len _ i _ hca 0 _ rfl)
        have y1 : wr.cell? ⟨gc, i * 2 + 1, none⟩ = some (.int .i64 (2 * (k : Int) + 1)) := (ownC.cellAt _ (by omega)).trans (cellsG_get fAmt_len _ i _ hca 1 _ rfl)
        have gwr : gw < wr.heap.size := cell_lt x0
        have gcr : gc < wr.heap.size := cell_lt y0
        have hbi := HBR.out i hlt
        have hnx : poS n (i + 1) = pBring (poS n i) 1 (2 * (k : Int) + 1) (2 * (k : Int) - 1) (2 * (k : Int) + 1) k := by
          show pBring (poS n i) 1 (2 * ((n - 1 - i : Nat) : Int) + 1) (2 * ((n - 1 - i : Nat) : Int) - 1) (2 * ((n - 1 - i : Nat) : Int) + 1) (n - 1 - i) = _
          rw [show n - 1 - i = k by omega]
        rw [show n - 1 - i = k by omega] at hbi
        have hbr := fun (W : World) (hgW : g < W.heap.size) (h : PlanAt g W (poS n i)) => bring_impl g (poS n i) 1 (2 * (k : Int) + 1) (2 * (k : Int) - 1) (2 * (k : Int) + 1) k (by omega) hbi W hgW h
        have ek : (k : Int) = (n : Int) - 1 - i := by omega
        have HB := Lib.hid (show ∀ (W : World) (hgW : g < W.heap.size) (h : PlanAt g W (poS n i)), Calls Try.prog 90 #[.pointer (some ⟨g, 0, none⟩), .agg #[.int .i64 1, .int .i64 (2 * (k : Int) + 1)], .agg #[.int .i64 (2 * (k : Int) - 1), .int .i64 (2 * (k : Int) + 1)], .int .i64 ((n : Int) - 1 - i)] W fun e' w' => e' = .returned (.tuple #[]) ∧ PlanAt g w' (poS n (i + 1)) ∧ PlanKeep g W w' from fun W hgW h => by
          rw [hnx, ← ek]; exact hbr W hgW h)
        have lW := (ownW.2.resolve_left (fun h => by cases h.1))
        have i1 : (0 : Int) ≤ (i : Int) := by omega
        have i2 : (i : Int) < ((n - 1 : Nat) : Int) := by omega
        clear hpa hca hbi hnx hbr ek
        have wq1 : IntKind.i64.wrap ((n : Int) - 1) = (n : Int) - 1 := IntWalk.i64_in _ (by omega)
        have wq2 : IntKind.i64.wrap ((n : Int) - 1 - i) = (n : Int) - 1 - i := IntWalk.i64_in _ (by omega)
        go_upto_region 9 with fail
        refine wp_region_noPanic ?_
        refine wp_region_U 9 (fun W => W.cell? ⟨wr.heap.size, 0, none⟩ = some (.int .i64 1) ∧ W.cell? ⟨wr.heap.size, 1, none⟩ = some (.int .i64 (2 * (k : Int) + 1)) ∧ W.cell? ⟨gc, i * 2, none⟩ = some (.int .i64 (2 * (k : Int) - 1)) ∧ W.cell? ⟨gc, i * 2 + 1, none⟩ = some (.int .i64 (2 * (k : Int) + 1))) (by kernel_rfl) (by simp [go_sem, y0, y1, gcr]) (fun hHeld => ?_)
        (refine wpAnyU_take (i := 0) (v := ?_) (by rfl) (by decide) (by kernel_rfl) (by kernel_rfl) (by kernel_rfl) (by kernel_rfl) (by kernel_rfl) (fun _ _ _ h => h) (Or.inl ⟨by rfl, ?_⟩) (by assumption) ?_; rotate_left; (focus (intro w hSw; (try dsimp only at hSw); go_simp; (try with_reducible rfl))); (try simp only [Act.put, List.setIfInBounds_toArray, List.set_cons_zero, List.set_cons_succ]))
        (refine wpAnyU_pure (i := 1) (v := ?_) (by rfl) (by decide) (by kernel_rfl) (by kernel_rfl) (by kernel_rfl) (fun _ _ _ h => h) (Or.inl ⟨by rfl, ?_⟩) (by first | exact Or.inr (by assumption) | exact Or.inl (by kernel_rfl)) ?_; rotate_left; (focus (intro w hSw; go_simp; (try with_reducible rfl))); (try simp only [Act.put, List.setIfInBounds_toArray, List.set_cons_zero, List.set_cons_succ]))
        (refine wpAnyU_pure (i := 2) (v := ?_) (by rfl) (by decide) (by kernel_rfl) (by kernel_rfl) (by kernel_rfl) (fun _ _ _ h => h) (Or.inl ⟨by rfl, ?_⟩) (by first | exact Or.inr (by assumption) | exact Or.inl (by kernel_rfl)) ?_; rotate_left; (focus (intro w hSw; go_simp; (try with_reducible rfl))); (try simp only [Act.put, List.setIfInBounds_toArray, List.set_cons_zero, List.set_cons_succ]))
        (refine wpAnyU_pure (i := 3) (v := ?_) (by rfl) (by decide) (by kernel_rfl) (by kernel_rfl) (by kernel_rfl) (fun _ _ _ h => h) (Or.inl ⟨by rfl, ?_⟩) (by first | exact Or.inr (by assumption) | exact Or.inl (by kernel_rfl)) ?_; rotate_left; (focus (intro w hSw; go_simp; (try with_reducible rfl))); (try simp only [Act.put, List.setIfInBounds_toArray, List.set_cons_zero, List.set_cons_succ]))
        (refine wpAnyU_take (i := 4) (v := ?_) (by rfl) (by decide) (by kernel_rfl) (by kernel_rfl) (by kernel_rfl) (by kernel_rfl) (by kernel_rfl) (fun _ _ _ h => h) (Or.inl ⟨by rfl, ?_⟩) (by assumption) ?_; rotate_left; (focus (intro w hSw; (try dsimp only at hSw); go_simp; (try with_reducible rfl))); (try simp only [Act.put, List.setIfInBounds_toArray, List.set_cons_zero, List.set_cons_succ]))
        (refine wpAnyU_pure (i := 5) (v := ?_) (by rfl) (by decide) (by kernel_rfl) (by kernel_rfl) (by kernel_rfl) (fun _ _ _ h => h) (Or.inl ⟨by rfl, ?_⟩) (by first | exact Or.inr (by assumption) | exact Or.inl (by kernel_rfl)) ?_; rotate_left; (focus (intro w hSw; go_simp; (try with_reducible rfl))); (try simp only [Act.put, List.setIfInBounds_toArray, List.set_cons_zero, List.set_cons_succ]))
        (refine wpAnyU_pure (i := 6) (v := ?_) (by rfl) (by decide) (by kernel_rfl) (by kernel_rfl) (by kernel_rfl) (fun _ _ _ h => h) (Or.inl ⟨by rfl, ?_⟩) (by first | exact Or.inr (by assumption) | exact Or.inl (by kernel_rfl)) ?_; rotate_left; (focus (intro w hSw; go_simp; (try with_reducible rfl))); (try simp only [Act.put, List.setIfInBounds_toArray, List.set_cons_zero, List.set_cons_succ]))
        (refine wpAnyU_pure (i := 7) (v := ?_) (by rfl) (by decide) (by kernel_rfl) (by kernel_rfl) (by kernel_rfl) (fun _ _ _ h => h) (Or.inl ⟨by rfl, ?_⟩) (by first | exact Or.inr (by assumption) | exact Or.inl (by kernel_rfl)) ?_; rotate_left; (focus (intro w hSw; go_simp; (try with_reducible rfl))); (try simp only [Act.put, List.setIfInBounds_toArray, List.set_cons_zero, List.set_cons_succ]))
        (refine wpAnyU_take (i := 8) (v := ?_) (by rfl) (by decide) (by kernel_rfl) (by kernel_rfl) (by kernel_rfl) (by kernel_rfl) (by kernel_rfl) (fun _ _ _ h => h) (Or.inl ⟨by rfl, ?_⟩) (by assumption) ?_; rotate_left; (focus (intro w hSw; (try dsimp only at hSw); go_simp; (try with_reducible rfl))); (try simp only [Act.put, List.setIfInBounds_toArray, List.set_cons_zero, List.set_cons_succ]))
        refine wpAnyU_one (i := 9) (by kernel_rfl) (by rfl) (fun K hK => ?_)
        go_simp
        have hP' : PlanAt g (wr.alloc (.cells #[.int .i64 1, .int .i64 (2 * (k : Int) + 1)] 23)).drew (poS n i) := by
          obtain ⟨v, hv⟩ := hP
          exact ⟨v, (hv.later (by (repeat (first | with_reducible exact Below.refl _ _ | with_reducible assumption | with_reducible refine balloc ?_ _ | with_reducible refine bdrew ?_ | with_reducible refine below_drewN ?_ _ | with_reducible refine bset ?_ ?_ _ | with_reducible exact Nat.le_refl _ | with_reducible refine bsize ?_ | (dsimp only; refine Nat.le_trans ?_ (Nat.le_add_right _ _)) | with_reducible refine Nat.le_trans ?_ (Nat.le_add_right _ _) | (with_reducible refine bstep ?_ (by assumption)))))).later (by (repeat (first | with_reducible exact Below.refl _ _ | with_reducible assumption | with_reducible refine balloc ?_ _ | with_reducible refine bdrew ?_ | with_reducible refine below_drewN ?_ _ | with_reducible refine bset ?_ ?_ _ | with_reducible exact Nat.le_refl _ | with_reducible refine bsize ?_ | (dsimp only; refine Nat.le_trans ?_ (Nat.le_add_right _ _)) | with_reducible refine Nat.le_trans ?_ (Nat.le_add_right _ _) | (with_reducible refine bstep ?_ (by assumption)))))⟩
        go_at_call 90
        refine (HB.out _ (by simp; omega) hP').mono ?_
        rintro e w5 ⟨rfl, hP5, hk5⟩
        have ownW5 := own_keep (own_drew (own_alloc ownW (.cells #[.int .i64 1, .int .i64 (2 * (k : Int) + 1)] 23))) hk5 neW
        have ownC5 := own_keep (own_drew (own_alloc ownC (.cells #[.int .i64 1, .int .i64 (2 * (k : Int) + 1)] 23))) hk5 neC
        have sz5 : g < w5.heap.size := Nat.lt_of_lt_of_le (by simp; omega) hk5.size
        have bel5 : Below w.heap.size w w5 := hk5.bel _ _ wg2 (by (repeat (first | with_reducible exact Below.refl _ _ | with_reducible assumption | with_reducible refine balloc ?_ _ | with_reducible refine bdrew ?_ | with_reducible refine below_drewN ?_ _ | with_reducible refine bset ?_ ?_ _ | with_reducible exact Nat.le_refl _ | with_reducible refine bsize ?_ | (dsimp only; refine Nat.le_trans ?_ (Nat.le_add_right _ _)) | with_reducible refine Nat.le_trans ?_ (Nat.le_add_right _ _) | (with_reducible refine bstep ?_ (by assumption)))))
        clear wq1 wq2 hP' hP ownW ownC x0 x1 y0 y1 gwr gcr lW bel
        (try go_wp2_with fail)
        refine hK.out _ _ (Or.inl (by kernel_rfl)) (fun _ => ?_)
        clear hK
        clear K
        (try simp only [Act.put, List.setIfInBounds_toArray, List.set_cons_zero, List.set_cons_succ])
        refine wpAnyU_done (by kernel_rfl) ?_ _
        refine NoPanic.normal ?_
        go_wp2
        go_roundw
        case rel => exact ⟨i + 1, by omega, by go_num, hP5, ownW5, ownC5, sz5, bel5⟩
        case measure => first | (simp [intOf]; done) | (simp [intOf]; omega)
      · obtain rfl : i = n - 1 := by omega
        clear HBR HDD HCC ownW ownC
        go_wp2_with fail
        refine (fillAt_impl g _ hfl _ hP).mono ?_
        rintro e w5 ⟨rfl, hP5, hk5⟩
        have bel5 := hk5.bel _ _ wg2 bel
        have sz5 : g < w5.heap.size := Nat.lt_of_lt_of_le sz hk5.size
        clear hP hk5 bel
        go_wp2_with (go_at_call 88; refine (whole_is_impl _ _).mono ?_; rintro e w6 ⟨rfl, rfl⟩)
        have hP6 : PlanAt g (w5.alloc (.cells #[.int .i64 1, .int .i64 1] 23)) (pFill (poS n (n - 1))) := by
          obtain ⟨v, hv⟩ := hP5
          exact ⟨v, hv.later (by (repeat (first | with_reducible exact Below.refl _ _ | with_reducible assumption | with_reducible refine balloc ?_ _ | with_reducible refine bdrew ?_ | with_reducible refine below_drewN ?_ _ | with_reducible refine bset ?_ ?_ _ | with_reducible exact Nat.le_refl _ | with_reducible refine bsize ?_ | (dsimp only; refine Nat.le_trans ?_ (Nat.le_add_right _ _)) | with_reducible refine Nat.le_trans ?_ (Nat.le_add_right _ _) | (with_reducible refine bstep ?_ (by assumption)))))⟩
        refine (addAt_impl g _ 0 1 1 hls (am_whole 1 (by omega) (by omega)) _ hP6).mono ?_
        rintro e w7 ⟨rfl, hP7, hk7⟩
        have bel7 := hk7.bel _ _ wg2 (show Below w.heap.size w _ by (repeat (first | with_reducible exact Below.refl _ _ | with_reducible assumption | with_reducible refine balloc ?_ _ | with_reducible refine bdrew ?_ | with_reducible refine below_drewN ?_ _ | with_reducible refine bset ?_ ?_ _ | with_reducible exact Nat.le_refl _ | with_reducible refine bsize ?_ | (dsimp only; refine Nat.le_trans ?_ (Nat.le_add_right _ _)) | with_reducible refine Nat.le_trans ?_ (Nat.le_add_right _ _) | (with_reducible refine bstep ?_ (by assumption)))))
        obtain ⟨v, hv⟩ := hP7
        have h0 := hv.c0
        have hown := hv.own
        clear hP5 hP6 hv hk7
        obtain ⟨av, cv, rfl⟩ := owns_shape hown
        go_wp2
        go_ret2
        exact ⟨_, rfl, own_mono hown (by omega), bel7⟩

end Go.Proofs.Ytjmmlknbdmngeaa
