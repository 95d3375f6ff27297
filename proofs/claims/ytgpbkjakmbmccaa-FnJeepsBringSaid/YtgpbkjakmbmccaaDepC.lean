/- Contracts of DepotsOut and DepotsBack, on both sides. -/
import Derived.Test.YtgpbkjakmbmccaaDepS
import Derived.Test.YtgpbkjakmbmccaaDepI
namespace Go.Proofs.Ytgpbkjakmbmccaa
open Go.ChangeShapes Go.WideShapes Go.ChangeAt Go.RowKit Go.Joins
set_option maxRecDepth 100000
set_option linter.unusedVariables false
set_option linter.unusedSimpArgs false

theorem rowG_below {α : Type} {m : Nat} {f : α → List Int} {w w' : World} {v : Value} {l : List α} (h : RowG m f w v l) (hb : Below w.heap.size w w') : RowG m f w' v l := by
  rcases h with h | ⟨a, cap, h, hL⟩
  · exact Or.inl h
  · exact Or.inr ⟨a, cap, h, liesG_below hL hb⟩
theorem pL_get (j : Int) (t i m : Nat) (h : m < i) (ht : i ≤ t) : (pL j t i)[m]? = (pL j t t)[m]? := by
  simp [pL, List.getElem?_map, List.getElem?_range, h, show m < t by omega]
theorem pL_at (j : Int) (t i : Nat) (h : i < t) : (pL j t t)[i]? = some (1, drv j (t - 1 - i)) := by
  simp [pL, List.getElem?_map, h]
/-- The first i parts, as a slice of their own. -/
theorem first_row {j : Int} {t i g cap : Nat} {w : World} (hL : LiesG 2 fAmt w ⟨g, 0, none⟩ cap (pL j t t)) (hi : i ≤ t) : RowG 2 fAmt w (.slice (some ⟨g, 0, none⟩) i i) (pL j t i) := by
  refine Or.inr ⟨⟨g, 0, none⟩, i, by rw [pL_len], ?_⟩
  have hlc := hL.hlc
  rw [pL_len] at hlc
  refine ⟨by rw [pL_len]; exact Nat.le_refl _, by have := hL.hcap; omega, fun m p hp k y hy => ?_, fun p hp => ?_⟩
  · have hm : m < i := by have := (List.getElem?_eq_some_iff.1 hp).1; rwa [pL_len] at this
    rw [pL_get j t i m hm hi] at hp
    exact hL.hcell m p hp k y hy
  · obtain ⟨m, hm, hp'⟩ := List.getElem_of_mem hp
    have hm' : m < i := by rwa [pL_len] at hm
    have e : (pL j t i)[m]? = some p := by rw [List.getElem?_eq_getElem hm, hp']
    rw [pL_get j t i m hm' hi] at e
    exact hL.hbd p (List.mem_of_getElem? e)

set_option maxHeartbeats 800000 in
theorem depI_1_no (t : Int) (h : tkOk t = false) (w : World) :
    Calls Try.prog 55 #[.int .i64 1, .int .i64 t, .func (.func 56) #[] #[]] w (AnsG 41 4 fDepot [] false w) := by
  go_enter Try.func55, Try.ntmps55
  go_wp2_with (go_at_call 49; refine (in_impl _ _ _ _).mono ?_; rintro e w1 ⟨rfl, rfl⟩; rw [show inB t 0 10 = false from h])
  go_ret2
  exact ⟨_, rfl, ⟨rfl, Or.inl ⟨rfl, rfl⟩⟩, Below.refl _ _⟩
set_option maxHeartbeats 3200000 in
theorem depI_1_yes (t : Nat) (ht : t ≤ 10) (w : World) :
    Calls Try.prog 55 #[.int .i64 1, .int .i64 t, .func (.func 56) #[] #[]] w (AnsG 41 4 fDepot (dpP 1 t (t - 1)) true w) := by
  obtain ⟨i0, hi, hz0, hz1, hz2⟩ := info_parts infoDep
  have h : inB (t : Int) 0 10 = true := by unfold inB; simp; omega
  go_enter Try.func55, Try.ntmps55
  go_wp2_with (first | (go_at_call 49; refine (in_impl _ _ _ _).mono ?_; rintro e w1 ⟨rfl, rfl⟩; rw [h]) | (go_at_call 94; refine (parts_impl 1 t (Or.inl rfl) (by omega) _).mono ?_; rintro e w2 ⟨pv, rfl, hpo, hbp⟩))
  go_loopw [10, 11] (fun u c wr => ∃ (i : Nat) (v : Value), v = u ∧ i ≤ t - 1 ∧ c = .int .i64 ((t : Int) - 1 - i) ∧ wr.ownsRow w2.heap.size 41 4 v i (cellsG fDepot (dpP 1 t i)) ∧ Below w2.heap.size w2 wr) (fun _ c _ => (intOf c + 1).toNat)
  case atStart => exact ⟨0, _, rfl, Nat.zero_le _, by simp, ⟨rfl, Or.inl ⟨rfl, rfl⟩⟩, Below.refl _ _⟩
  case round =>
    obtain ⟨i, v, rfl, hit, rfl, hown, hbel⟩ := hrel
    by_cases hlt : i < t - 1
    · obtain ⟨k, hk⟩ : ∃ k : Nat, k + i + 1 = t := ⟨t - 1 - i, by omega⟩
      have hc : (t : Int) - 1 - i = (k : Int) := by omega
      rw [hc]
      have hk1 : 1 ≤ k := by omega
      have hk2 : k ≤ 9 := by omega
      obtain ⟨g, cap, rfl⟩ : ∃ g cap, pv = .slice (some ⟨g, 0, none⟩) t cap := by
        have h2 := hpo.2
        rcases h2 with ⟨_, h0⟩ | ⟨g, cap, cur, hv, _⟩
        · omega
        · exact ⟨g, cap, hv⟩
      have hpo' := hpo
      rw [← pL_len 1 t t] at hpo'
      have hL := liesG_own fAmt_len (by simpa [pL_len] using hpo') (pL_bd 1 t t (Or.inl rfl) (by omega))
      have hLr := liesG_below hL hbel
      have tc : t ≤ cap := by have := hL.hlc; rwa [pL_len] at this
      have hcm := hL.hcap
      have hrow : RowG 2 fAmt wr (.slice (some ⟨g, 0, none⟩) (i + 1) (i + 1)) (pL 1 t (i + 1)) := first_row hLr (by omega)
      have ek : t - 1 - i = k := by omega
      have hpa := pL_at 1 t i (by omega)
      have c0 := hLr.hcell i _ hpa 0 1 rfl
      have c1 := hLr.hcell i _ hpa 1 _ rfl
      rw [Addr.add_lit, Nat.zero_add] at c0 c1
      rw [Nat.add_zero] at c0
      rw [ek, show drv 1 k = 2 * (k : Int) + 1 from rfl] at c1
      have hdn := dpP_succ 1 t i
      rw [ek] at hdn
      unfold atP at hdn
      dsimp only at hdn
      have hcon := fun (W : World) (hr : RowG 2 fAmt W (.slice (some ⟨g, 0, none⟩) (i + 1) (i + 1)) (pL 1 t (i + 1))) => together_impl _ _ W hr (by rw [pL_len]; omega)
      generalize oN (sumL (pL 1 t (i + 1)) 0 1) = X at *
      generalize oD (sumL (pL 1 t (i + 1)) 0 1) = Y at *
      have hgs : g < wr.heap.size := cell_lt c0
      have hgl : g < w2.heap.size := own_lt hpo rfl
      have E : (t : Int) - (k : Int) = (i : Int) + 1 := by omega
      have HC := Lib.hid hcon
      have HR := Lib.hid hrow
      have HK := Lib.hid hk
      have HD := Lib.hid hdn
      have hi20 : i ≤ 20 := by omega
      have ti : i + 1 ≤ cap := by omega
      have ti2 : (i : Int) + 1 ≤ (cap : Int) := by omega
      have tn : ((i : Int) + 1).toNat = i + 1 := by omega
      clear hcon hrow hk hdn hc ek hpa hLr hL hpo hpo' h
      go_upto_region 10 with fail
      have wqa : IntKind.i64.wrap ((t : Int) - (k : Int)) = (i : Int) + 1 := by rw [E]; exact IntWalk.i64_in _ (by omega)
      have wqb : IntKind.i64.wrap ((i : Int) + 1 - 1) = (i : Int) := by rw [show (i : Int) + 1 - 1 = (i : Int) by omega]; exact IntWalk.i64_in _ (by omega)
      have wqc : IntKind.i64.wrap (i : Int) = (i : Int) := IntWalk.i64_in _ (by omega)
      have wqd : IntKind.i64.wrap ((i : Int) + 1) = (i : Int) + 1 := IntWalk.i64_in _ (by omega)
      have it : i < t := by omega
      have ne3 : v.ownBlock ≠ some g := own_ne hown hgl
      go_region_held_law (fun w' => w'.cell? ⟨g, i * 2, none⟩ = some (.int .i64 1) ∧ w'.cell? ⟨g, i * 2 + 1, none⟩ = some (.int .i64 (2 * (k : Int) + 1))) (first | exact ⟨by assumption, by assumption⟩ | exact ⟨keepa (W0 := wr) (by (repeat (first | with_reducible exact Below.refl _ _ | with_reducible assumption | with_reducible refine balloc ?_ _ | with_reducible refine bdrew ?_ | with_reducible refine below_drewN ?_ _ | with_reducible refine bset ?_ ?_ _ | with_reducible exact Nat.le_refl _ | with_reducible refine bsize ?_ | (dsimp only; refine Nat.le_trans ?_ (Nat.le_add_right _ _)) | with_reducible refine Nat.le_trans ?_ (Nat.le_add_right _ _) | (with_reducible refine bstep ?_ (by assumption))))) hgs c0, keepa (W0 := wr) (by (repeat (first | with_reducible exact Below.refl _ _ | with_reducible assumption | with_reducible refine balloc ?_ _ | with_reducible refine bdrew ?_ | with_reducible refine below_drewN ?_ _ | with_reducible refine bset ?_ ?_ _ | with_reducible exact Nat.le_refl _ | with_reducible refine bsize ?_ | (dsimp only; refine Nat.le_trans ?_ (Nat.le_add_right _ _)) | with_reducible refine Nat.le_trans ?_ (Nat.le_add_right _ _) | (with_reducible refine bstep ?_ (by assumption))))) hgs c1⟩ | exact ⟨trivial, trivial⟩) (first | (go_at_call 92; refine (HC.out _ ?hr).mono ?_; (case hr => refine rowG_below HR.out ?_; (repeat (first | with_reducible exact Below.refl _ _ | with_reducible assumption | with_reducible refine balloc ?_ _ | with_reducible refine bdrew ?_ | with_reducible refine below_drewN ?_ _ | with_reducible refine bset ?_ ?_ _ | with_reducible exact Nat.le_refl _ | with_reducible refine bsize ?_ | (dsimp only; refine Nat.le_trans ?_ (Nat.le_add_right _ _)) | with_reducible refine Nat.le_trans ?_ (Nat.le_add_right _ _) | (with_reducible refine bstep ?_ (by assumption))))); rintro e w3 ⟨rfl, hb3⟩) | (go_at_call 56; refine (fuelOut_impl k _ _ _).mono ?_; rintro e w4 ⟨rfl, hb4⟩) | (refine step_append_own rfl (.tmp 33) (.tmp 48) 36 rfl w2.heap.size 41 i0 (.agg #[.int .i64 0, .int .i64 0, .int .i64 0, .int .i64 0]) 4 32 Try.underlying36 hi hz0 hz1 hz2 rfl (by decide) v i (cellsG fDepot (dpP 1 t i)) ?c6 ?own ⟨w4.heap.size, 0, none⟩ 1 1 [.int .i64 X, .int .i64 Y, .int .i64 k, .int .i64 1] ?c7 rfl ?c1 ?c2 ?c3 ?c4 ?c5 ?_; (case own => (repeat (first | with_reducible assumption | with_reducible refine own_alloc ?_ _ | with_reducible refine own_drew ?_ | with_reducible refine own_set ?_ ?_ _ | with_reducible refine ownsRow_below ?_ (by assumption)))); (case c1 => simp [go_sem]); (case c2 => simp [Value.oneCell']); (case c3 => unfold maxLen; omega); (case c4 => omega); (case c5 => (repeat (first | with_reducible exact Below.refl _ _ | with_reducible assumption | with_reducible refine balloc ?_ _ | with_reducible refine bdrew ?_ | with_reducible refine below_drewN ?_ _ | with_reducible refine bset ?_ ?_ _ | with_reducible exact Nat.le_refl _ | with_reducible refine bsize ?_ | (dsimp only; refine Nat.le_trans ?_ (Nat.le_add_right _ _)) | with_reducible refine Nat.le_trans ?_ (Nat.le_add_right _ _) | (with_reducible refine bstep ?_ (by assumption))))); (case c6 => simp [Act.eval, Act.put]); (case c7 => simp [Act.eval, Act.put]); intro v' w5 hown' hgrow; (have e0 : w5.cell? ⟨g, i * 2, none⟩ = some (.int .i64 1) := hgrow.cell (keepa (W0 := wr) (by (repeat (first | with_reducible exact Below.refl _ _ | with_reducible assumption | with_reducible refine balloc ?_ _ | with_reducible refine bdrew ?_ | with_reducible refine below_drewN ?_ _ | with_reducible refine bset ?_ ?_ _ | with_reducible exact Nat.le_refl _ | with_reducible refine bsize ?_ | (dsimp only; refine Nat.le_trans ?_ (Nat.le_add_right _ _)) | with_reducible refine Nat.le_trans ?_ (Nat.le_add_right _ _) | (with_reducible refine bstep ?_ (by assumption))))) hgs c0) (fun e => ne3 e.symm)); (have e1 : w5.cell? ⟨g, i * 2 + 1, none⟩ = some (.int .i64 (2 * (k : Int) + 1)) := hgrow.cell (keepa (W0 := wr) (by (repeat (first | with_reducible exact Below.refl _ _ | with_reducible assumption | with_reducible refine balloc ?_ _ | with_reducible refine bdrew ?_ | with_reducible refine below_drewN ?_ _ | with_reducible refine bset ?_ ?_ _ | with_reducible exact Nat.le_refl _ | with_reducible refine bsize ?_ | (dsimp only; refine Nat.le_trans ?_ (Nat.le_add_right _ _)) | with_reducible refine Nat.le_trans ?_ (Nat.le_add_right _ _) | (with_reducible refine bstep ?_ (by assumption))))) hgs c1) (fun e => ne3 e.symm))))
      all_goals
        clear wqa wqb wqc wqd
        have hown2 : w5.ownsRow w2.heap.size 41 4 v' (i + 1) (cellsG fDepot (dpP 1 t (i + 1))) := by
          rw [HD.out, cellsG_snoc]; simpa [fDepot, fuP] using hown'
        have bel5 : Below w2.heap.size w2 w5 := by
          refine grown_bel (base := w2.heap.size) (e := 41) (size := 4) (n := i) (xs := cellsG fDepot (dpP 1 t i)) ?_ hgrow (by (repeat (first | with_reducible assumption | with_reducible refine own_alloc ?_ _ | with_reducible refine own_drew ?_ | with_reducible refine own_set ?_ ?_ _ | with_reducible refine ownsRow_below ?_ (by assumption)))) (Nat.le_refl _)
          (repeat (first | with_reducible exact Below.refl _ _ | with_reducible assumption | with_reducible refine balloc ?_ _ | with_reducible refine bdrew ?_ | with_reducible refine below_drewN ?_ _ | with_reducible refine bset ?_ ?_ _ | with_reducible exact Nat.le_refl _ | with_reducible refine bsize ?_ | (dsimp only; refine Nat.le_trans ?_ (Nat.le_add_right _ _)) | with_reducible refine Nat.le_trans ?_ (Nat.le_add_right _ _) | (with_reducible refine bstep ?_ (by assumption))))
        have HK2 := HK.out
        clear hown' hgrow hown hbel hb3 hb4 e0 e1 HC HR E ne3 c0 c1
        have HK := Lib.hid HK2
        clear HK2
        go_wp2
        go_roundw
        case rel => exact ⟨i + 1, _, rfl, by omega, by have := HK.out; congr 1; omega, hown2, bel5⟩
        case measure => first | (simp [intOf]; done) | (simp [intOf]; omega)
    · have hit' : i = t - 1 := by omega
      subst hit'
      have hc : ∃ y : Int, (t : Int) - 1 - ((t - 1 : Nat) : Int) = y ∧ y ≤ 0 ∧ -1 ≤ y := ⟨_, rfl, by omega, by omega⟩
      obtain ⟨y, hy, y0, y1⟩ := hc
      rw [hy]
      have hb2 := hbp.size
      clear hy h
      go_wp2
      go_ret2
      exact ⟨_, rfl, by rw [dpP_len]; exact own_mono hown hb2, bstep hbp hbel⟩

set_option maxHeartbeats 800000 in
theorem depI_2_no (t : Int) (h : tkOk t = false) (w : World) :
    Calls Try.prog 55 #[.int .i64 2, .int .i64 t, .func (.func 62) #[] #[]] w (AnsG 41 4 fDepot [] false w) := by
  go_enter Try.func55, Try.ntmps55
  go_wp2_with (go_at_call 49; refine (in_impl _ _ _ _).mono ?_; rintro e w1 ⟨rfl, rfl⟩; rw [show inB t 0 10 = false from h])
  go_ret2
  exact ⟨_, rfl, ⟨rfl, Or.inl ⟨rfl, rfl⟩⟩, Below.refl _ _⟩
set_option maxHeartbeats 3200000 in
theorem depI_2_yes (t : Nat) (ht : t ≤ 10) (w : World) :
    Calls Try.prog 55 #[.int .i64 2, .int .i64 t, .func (.func 62) #[] #[]] w (AnsG 41 4 fDepot (dpP 2 t (t - 1)) true w) := by
  obtain ⟨i0, hi, hz0, hz1, hz2⟩ := info_parts infoDep
  have h : inB (t : Int) 0 10 = true := by unfold inB; simp; omega
  go_enter Try.func55, Try.ntmps55
  go_wp2_with (first | (go_at_call 49; refine (in_impl _ _ _ _).mono ?_; rintro e w1 ⟨rfl, rfl⟩; rw [h]) | (go_at_call 94; refine (parts_impl 2 t (Or.inr rfl) (by omega) _).mono ?_; rintro e w2 ⟨pv, rfl, hpo, hbp⟩))
  go_loopw [10, 11] (fun u c wr => ∃ (i : Nat) (v : Value), v = u ∧ i ≤ t - 1 ∧ c = .int .i64 ((t : Int) - 1 - i) ∧ wr.ownsRow w2.heap.size 41 4 v i (cellsG fDepot (dpP 2 t i)) ∧ Below w2.heap.size w2 wr) (fun _ c _ => (intOf c + 1).toNat)
  case atStart => exact ⟨0, _, rfl, Nat.zero_le _, by simp, ⟨rfl, Or.inl ⟨rfl, rfl⟩⟩, Below.refl _ _⟩
  case round =>
    obtain ⟨i, v, rfl, hit, rfl, hown, hbel⟩ := hrel
    by_cases hlt : i < t - 1
    · obtain ⟨k, hk⟩ : ∃ k : Nat, k + i + 1 = t := ⟨t - 1 - i, by omega⟩
      have hc : (t : Int) - 1 - i = (k : Int) := by omega
      rw [hc]
      have hk1 : 1 ≤ k := by omega
      have hk2 : k ≤ 9 := by omega
      obtain ⟨g, cap, rfl⟩ : ∃ g cap, pv = .slice (some ⟨g, 0, none⟩) t cap := by
        have h2 := hpo.2
        rcases h2 with ⟨_, h0⟩ | ⟨g, cap, cur, hv, _⟩
        · omega
        · exact ⟨g, cap, hv⟩
      have hpo' := hpo
      rw [← pL_len 2 t t] at hpo'
      have hL := liesG_own fAmt_len (by simpa [pL_len] using hpo') (pL_bd 2 t t (Or.inr rfl) (by omega))
      have hLr := liesG_below hL hbel
      have tc : t ≤ cap := by have := hL.hlc; rwa [pL_len] at this
      have hcm := hL.hcap
      have hrow : RowG 2 fAmt wr (.slice (some ⟨g, 0, none⟩) (i + 1) (i + 1)) (pL 2 t (i + 1)) := first_row hLr (by omega)
      have ek : t - 1 - i = k := by omega
      have hpa := pL_at 2 t i (by omega)
      have c0 := hLr.hcell i _ hpa 0 1 rfl
      have c1 := hLr.hcell i _ hpa 1 _ rfl
      rw [Addr.add_lit, Nat.zero_add] at c0 c1
      rw [Nat.add_zero] at c0
      rw [ek, show drv 2 k = 2 * (k : Int) + 2 from rfl] at c1
      have hdn := dpP_succ 2 t i
      rw [ek] at hdn
      unfold atP at hdn
      dsimp only at hdn
      have hcon := fun (W : World) (hr : RowG 2 fAmt W (.slice (some ⟨g, 0, none⟩) (i + 1) (i + 1)) (pL 2 t (i + 1))) => together_impl _ _ W hr (by rw [pL_len]; omega)
      generalize oN (sumL (pL 2 t (i + 1)) 0 1) = X at *
      generalize oD (sumL (pL 2 t (i + 1)) 0 1) = Y at *
      have hgs : g < wr.heap.size := cell_lt c0
      have hgl : g < w2.heap.size := own_lt hpo rfl
      have E : (t : Int) - (k : Int) = (i : Int) + 1 := by omega
      have HC := Lib.hid hcon
      have HR := Lib.hid hrow
      have HK := Lib.hid hk
      have HD := Lib.hid hdn
      have hi20 : i ≤ 20 := by omega
      have ti : i + 1 ≤ cap := by omega
      have ti2 : (i : Int) + 1 ≤ (cap : Int) := by omega
      have tn : ((i : Int) + 1).toNat = i + 1 := by omega
      clear hcon hrow hk hdn hc ek hpa hLr hL hpo hpo' h
      go_upto_region 10 with fail
      have wqa : IntKind.i64.wrap ((t : Int) - (k : Int)) = (i : Int) + 1 := by rw [E]; exact IntWalk.i64_in _ (by omega)
      have wqb : IntKind.i64.wrap ((i : Int) + 1 - 1) = (i : Int) := by rw [show (i : Int) + 1 - 1 = (i : Int) by omega]; exact IntWalk.i64_in _ (by omega)
      have wqc : IntKind.i64.wrap (i : Int) = (i : Int) := IntWalk.i64_in _ (by omega)
      have wqd : IntKind.i64.wrap ((i : Int) + 1) = (i : Int) + 1 := IntWalk.i64_in _ (by omega)
      have it : i < t := by omega
      have ne3 : v.ownBlock ≠ some g := own_ne hown hgl
      go_region_held_law (fun w' => w'.cell? ⟨g, i * 2, none⟩ = some (.int .i64 1) ∧ w'.cell? ⟨g, i * 2 + 1, none⟩ = some (.int .i64 (2 * (k : Int) + 2))) (first | exact ⟨by assumption, by assumption⟩ | exact ⟨keepa (W0 := wr) (by (repeat (first | with_reducible exact Below.refl _ _ | with_reducible assumption | with_reducible refine balloc ?_ _ | with_reducible refine bdrew ?_ | with_reducible refine below_drewN ?_ _ | with_reducible refine bset ?_ ?_ _ | with_reducible exact Nat.le_refl _ | with_reducible refine bsize ?_ | (dsimp only; refine Nat.le_trans ?_ (Nat.le_add_right _ _)) | with_reducible refine Nat.le_trans ?_ (Nat.le_add_right _ _) | (with_reducible refine bstep ?_ (by assumption))))) hgs c0, keepa (W0 := wr) (by (repeat (first | with_reducible exact Below.refl _ _ | with_reducible assumption | with_reducible refine balloc ?_ _ | with_reducible refine bdrew ?_ | with_reducible refine below_drewN ?_ _ | with_reducible refine bset ?_ ?_ _ | with_reducible exact Nat.le_refl _ | with_reducible refine bsize ?_ | (dsimp only; refine Nat.le_trans ?_ (Nat.le_add_right _ _)) | with_reducible refine Nat.le_trans ?_ (Nat.le_add_right _ _) | (with_reducible refine bstep ?_ (by assumption))))) hgs c1⟩ | exact ⟨trivial, trivial⟩) (first | (go_at_call 92; refine (HC.out _ ?hr).mono ?_; (case hr => refine rowG_below HR.out ?_; (repeat (first | with_reducible exact Below.refl _ _ | with_reducible assumption | with_reducible refine balloc ?_ _ | with_reducible refine bdrew ?_ | with_reducible refine below_drewN ?_ _ | with_reducible refine bset ?_ ?_ _ | with_reducible exact Nat.le_refl _ | with_reducible refine bsize ?_ | (dsimp only; refine Nat.le_trans ?_ (Nat.le_add_right _ _)) | with_reducible refine Nat.le_trans ?_ (Nat.le_add_right _ _) | (with_reducible refine bstep ?_ (by assumption))))); rintro e w3 ⟨rfl, hb3⟩) | (go_at_call 62; refine (fuelBack_impl k _ hk1 hk2 rfl _).mono ?_; rintro e w4 ⟨rfl, hb4⟩) | (refine step_append_own rfl (.tmp 33) (.tmp 48) 36 rfl w2.heap.size 41 i0 (.agg #[.int .i64 0, .int .i64 0, .int .i64 0, .int .i64 0]) 4 32 Try.underlying36 hi hz0 hz1 hz2 rfl (by decide) v i (cellsG fDepot (dpP 2 t i)) ?c6 ?own ⟨w4.heap.size, 0, none⟩ 1 1 [.int .i64 X, .int .i64 Y, .int .i64 ((k : Int) * k), .int .i64 ((k : Int) + 1)] ?c7 rfl ?c1 ?c2 ?c3 ?c4 ?c5 ?_; (case own => (repeat (first | with_reducible assumption | with_reducible refine own_alloc ?_ _ | with_reducible refine own_drew ?_ | with_reducible refine own_set ?_ ?_ _ | with_reducible refine ownsRow_below ?_ (by assumption)))); (case c1 => simp [go_sem]); (case c2 => simp [Value.oneCell']); (case c3 => unfold maxLen; omega); (case c4 => omega); (case c5 => (repeat (first | with_reducible exact Below.refl _ _ | with_reducible assumption | with_reducible refine balloc ?_ _ | with_reducible refine bdrew ?_ | with_reducible refine below_drewN ?_ _ | with_reducible refine bset ?_ ?_ _ | with_reducible exact Nat.le_refl _ | with_reducible refine bsize ?_ | (dsimp only; refine Nat.le_trans ?_ (Nat.le_add_right _ _)) | with_reducible refine Nat.le_trans ?_ (Nat.le_add_right _ _) | (with_reducible refine bstep ?_ (by assumption))))); (case c6 => simp [Act.eval, Act.put]); (case c7 => simp [Act.eval, Act.put]); intro v' w5 hown' hgrow; (have e0 : w5.cell? ⟨g, i * 2, none⟩ = some (.int .i64 1) := hgrow.cell (keepa (W0 := wr) (by (repeat (first | with_reducible exact Below.refl _ _ | with_reducible assumption | with_reducible refine balloc ?_ _ | with_reducible refine bdrew ?_ | with_reducible refine below_drewN ?_ _ | with_reducible refine bset ?_ ?_ _ | with_reducible exact Nat.le_refl _ | with_reducible refine bsize ?_ | (dsimp only; refine Nat.le_trans ?_ (Nat.le_add_right _ _)) | with_reducible refine Nat.le_trans ?_ (Nat.le_add_right _ _) | (with_reducible refine bstep ?_ (by assumption))))) hgs c0) (fun e => ne3 e.symm)); (have e1 : w5.cell? ⟨g, i * 2 + 1, none⟩ = some (.int .i64 (2 * (k : Int) + 2)) := hgrow.cell (keepa (W0 := wr) (by (repeat (first | with_reducible exact Below.refl _ _ | with_reducible assumption | with_reducible refine balloc ?_ _ | with_reducible refine bdrew ?_ | with_reducible refine below_drewN ?_ _ | with_reducible refine bset ?_ ?_ _ | with_reducible exact Nat.le_refl _ | with_reducible refine bsize ?_ | (dsimp only; refine Nat.le_trans ?_ (Nat.le_add_right _ _)) | with_reducible refine Nat.le_trans ?_ (Nat.le_add_right _ _) | (with_reducible refine bstep ?_ (by assumption))))) hgs c1) (fun e => ne3 e.symm))))
      all_goals
        clear wqa wqb wqc wqd
        have hown2 : w5.ownsRow w2.heap.size 41 4 v' (i + 1) (cellsG fDepot (dpP 2 t (i + 1))) := by
          rw [HD.out, cellsG_snoc]; simpa [fDepot, fuP] using hown'
        have bel5 : Below w2.heap.size w2 w5 := by
          refine grown_bel (base := w2.heap.size) (e := 41) (size := 4) (n := i) (xs := cellsG fDepot (dpP 2 t i)) ?_ hgrow (by (repeat (first | with_reducible assumption | with_reducible refine own_alloc ?_ _ | with_reducible refine own_drew ?_ | with_reducible refine own_set ?_ ?_ _ | with_reducible refine ownsRow_below ?_ (by assumption)))) (Nat.le_refl _)
          (repeat (first | with_reducible exact Below.refl _ _ | with_reducible assumption | with_reducible refine balloc ?_ _ | with_reducible refine bdrew ?_ | with_reducible refine below_drewN ?_ _ | with_reducible refine bset ?_ ?_ _ | with_reducible exact Nat.le_refl _ | with_reducible refine bsize ?_ | (dsimp only; refine Nat.le_trans ?_ (Nat.le_add_right _ _)) | with_reducible refine Nat.le_trans ?_ (Nat.le_add_right _ _) | (with_reducible refine bstep ?_ (by assumption))))
        have HK2 := HK.out
        clear hown' hgrow hown hbel hb3 hb4 e0 e1 HC HR E ne3 c0 c1
        have HK := Lib.hid HK2
        clear HK2
        go_wp2
        go_roundw
        case rel => exact ⟨i + 1, _, rfl, by omega, by have := HK.out; congr 1; omega, hown2, bel5⟩
        case measure => first | (simp [intOf]; done) | (simp [intOf]; omega)
    · have hit' : i = t - 1 := by omega
      subst hit'
      have hc : ∃ y : Int, (t : Int) - 1 - ((t - 1 : Nat) : Int) = y ∧ y ≤ 0 ∧ -1 ≤ y := ⟨_, rfl, by omega, by omega⟩
      obtain ⟨y, hy, y0, y1⟩ := hc
      rw [hy]
      have hb2 := hbp.size
      clear hy h
      go_wp2
      go_ret2
      exact ⟨_, rfl, by rw [dpP_len]; exact own_mono hown hb2, bstep hbp hbel⟩

theorem depI_1 (t : Int) (w : World) :
    Calls Try.prog 55 #[.int .i64 1, .int .i64 t, .func (.func 56) #[] #[]] w (AnsG 41 4 fDepot (dpL 1 t) (tkOk t) w) := by
  unfold dpL
  cases h : tkOk t
  · rw [if_neg (by simp)]; exact depI_1_no t h w
  · rw [if_pos rfl]
    obtain ⟨k, hk, rfl⟩ := tk_nat h
    exact depI_1_yes k hk w
theorem depotsOut_impl (t : Int) (bt : -9223372036854775808 ≤ t ∧ t ≤ 9223372036854775807) (w : World) :
    Calls Try.prog 12 #[.int .i64 t] w (AnsG 41 4 fDepot (dpL 1 t) (tkOk t) w) := by
  go_enter Try.func12, Try.ntmps12
  go_wp2_with fail; refine (depI_1 t _).mono ?_; rintro e w1 ⟨v, rfl, hown, hb1⟩
  go_wp2
  go_ret2
  exact ⟨_, rfl, hown, hb1⟩
theorem depotsOut_spec (t : Int) (bt : -9223372036854775808 ≤ t ∧ t ≤ 9223372036854775807) (w : World) :
    Calls Try.prog 15 #[.int .i64 t] w (AnsG 41 4 fDepot (dpL 1 t) (tkOk t) w) := by
  unfold dpL
  cases h : tkOk t
  · rw [if_neg (by simp)]
    go_enter Try.func15, Try.ntmps15
    go_wp2_with (go_at_call 60; refine (jeTanks_spec _ _).mono ?_; rintro e w1 ⟨rfl, rfl⟩; rw [h])
    go_ret2
    exact ⟨_, rfl, ⟨rfl, Or.inl ⟨rfl, rfl⟩⟩, Below.refl _ _⟩
  · rw [if_pos rfl]
    obtain ⟨k, hk, rfl⟩ := tk_nat h
    go_enter Try.func15, Try.ntmps15
    go_wp2_with (first | (go_at_call 60; refine (jeTanks_spec _ _).mono ?_; rintro e w1 ⟨rfl, rfl⟩; rw [h]) | (go_at_call 61; refine (jeDep_1 k hk _).mono ?_; rintro e w2 ⟨v, rfl, hown, hb2⟩))
    go_ret2
    refine ⟨_, rfl, ?_, hb2⟩
    rw [dpP_len]
    exact hown

theorem depI_2 (t : Int) (w : World) :
    Calls Try.prog 55 #[.int .i64 2, .int .i64 t, .func (.func 62) #[] #[]] w (AnsG 41 4 fDepot (dpL 2 t) (tkOk t) w) := by
  unfold dpL
  cases h : tkOk t
  · rw [if_neg (by simp)]; exact depI_2_no t h w
  · rw [if_pos rfl]
    obtain ⟨k, hk, rfl⟩ := tk_nat h
    exact depI_2_yes k hk w
theorem depotsBack_impl (t : Int) (bt : -9223372036854775808 ≤ t ∧ t ≤ 9223372036854775807) (w : World) :
    Calls Try.prog 16 #[.int .i64 t] w (AnsG 41 4 fDepot (dpL 2 t) (tkOk t) w) := by
  go_enter Try.func16, Try.ntmps16
  go_wp2_with fail; refine (depI_2 t _).mono ?_; rintro e w1 ⟨v, rfl, hown, hb1⟩
  go_wp2
  go_ret2
  exact ⟨_, rfl, hown, hb1⟩
theorem depotsBack_spec (t : Int) (bt : -9223372036854775808 ≤ t ∧ t ≤ 9223372036854775807) (w : World) :
    Calls Try.prog 17 #[.int .i64 t] w (AnsG 41 4 fDepot (dpL 2 t) (tkOk t) w) := by
  unfold dpL
  cases h : tkOk t
  · rw [if_neg (by simp)]
    go_enter Try.func17, Try.ntmps17
    go_wp2_with (go_at_call 60; refine (jeTanks_spec _ _).mono ?_; rintro e w1 ⟨rfl, rfl⟩; rw [h])
    go_ret2
    exact ⟨_, rfl, ⟨rfl, Or.inl ⟨rfl, rfl⟩⟩, Below.refl _ _⟩
  · rw [if_pos rfl]
    obtain ⟨k, hk, rfl⟩ := tk_nat h
    go_enter Try.func17, Try.ntmps17
    go_wp2_with (first | (go_at_call 60; refine (jeTanks_spec _ _).mono ?_; rintro e w1 ⟨rfl, rfl⟩; rw [h]) | (go_at_call 61; refine (jeDep_2 k hk _).mono ?_; rintro e w2 ⟨v, rfl, hown, hb2⟩))
    go_ret2
    refine ⟨_, rfl, ?_, hb2⟩
    rw [dpP_len]
    exact hown
end Go.Proofs.Ytgpbkjakmbmccaa
