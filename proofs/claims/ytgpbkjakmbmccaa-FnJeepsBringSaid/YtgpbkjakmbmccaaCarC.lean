/- Contracts of waysTo and CarriesOut. -/
import Derived.Test.YtgpbkjakmbmccaaDepC
namespace Go.Proofs.Ytgpbkjakmbmccaa
open Go.ChangeShapes Go.WideShapes Go.ChangeAt Go.RowKit Go.Joins
set_option maxRecDepth 100000
set_option linter.unusedVariables false
set_option linter.unusedSimpArgs false

theorem dpP_at (j : Int) (t i : Nat) (h : i < t - 1) : (dpP j t (t - 1))[i]? = some ⟨(atP j t (i + 1)).1, (atP j t (i + 1)).2, (fuP j (t - 1 - i)).1, (fuP j (t - 1 - i)).2⟩ := by
  simp [dpP, List.getElem?_map, h]
def wyOk (t m : Nat) : Bool :=
  decide (0 ≤ (atP 1 t m).1 ∧ (atP 1 t m).1 ≤ 1000000000) && decide (0 ≤ (atP 1 t m).2 ∧ (atP 1 t m).2 ≤ 1000000000) && decide (0 ≤ (atP 1 t (m + 1)).1 ∧ (atP 1 t (m + 1)).1 ≤ 1000000000) && decide (0 ≤ (atP 1 t (m + 1)).2 ∧ (atP 1 t (m + 1)).2 ≤ 1000000000) &&
  twoB (okk (atP 1 t (m + 1)).1 (atP 1 t (m + 1)).2 (atP 1 t m).1 (atP 1 t m).2) ((atP 1 t (m + 1)).1 * (atP 1 t m).2 - (atP 1 t m).1 * (atP 1 t (m + 1)).2) ((atP 1 t (m + 1)).2 * (atP 1 t m).2) &&
  twoN (okk (atP 1 t (m + 1)).1 (atP 1 t (m + 1)).2 (atP 1 t m).1 (atP 1 t m).2) ((atP 1 t (m + 1)).1 * (atP 1 t m).2 - (atP 1 t m).1 * (atP 1 t (m + 1)).2) ((atP 1 t (m + 1)).2 * (atP 1 t m).2) == 1 &&
  twoD (okk (atP 1 t (m + 1)).1 (atP 1 t (m + 1)).2 (atP 1 t m).1 (atP 1 t m).2) ((atP 1 t (m + 1)).1 * (atP 1 t m).2 - (atP 1 t m).1 * (atP 1 t (m + 1)).2) ((atP 1 t (m + 1)).2 * (atP 1 t m).2) == drv 1 (t - 1 - m)
theorem wy_all : ∀ t, t < 11 → ∀ m, m < t → wyOk t m = true := by decide +kernel
theorem wy_con (t m : Nat) (ht : t < 11) (hm : m < t) (W : World) :
    Calls Try.prog 28 #[.agg #[.int .i64 (atP 1 t (m + 1)).1, .int .i64 (atP 1 t (m + 1)).2], .agg #[.int .i64 (atP 1 t m).1, .int .i64 (atP 1 t m).2]] W fun e w' => e = .returned (.tuple #[.agg #[.int .i64 1, .int .i64 (drv 1 (t - 1 - m))], .bool true]) ∧ Below W.heap.size W w' := by
  have hs := wy_all t ht m hm
  simp only [wyOk, Bool.and_eq_true, beq_iff_eq, decide_eq_true_eq] at hs
  obtain ⟨⟨⟨⟨⟨⟨⟨a1, a2⟩, b1, b2⟩, c1, c2⟩, d1, d2⟩, s1⟩, s2⟩, s3⟩ := hs
  have hc := minus_pub_impl (atP 1 t (m + 1)).1 (atP 1 t (m + 1)).2 (atP 1 t m).1 (atP 1 t m).2 (by omega) (by omega) (by omega) (by omega) W
  rw [s1, s2, s3] at hc
  exact hc
/-- What each trip leaves. -/
def crP (t i : Nat) : List (Int × Int) := (List.range i).map fun (m : Nat) => (2 * ((t - 1 - m : Nat) : Int) - 1, 2 * ((t - 1 - m : Nat) : Int) + 1)
theorem crP_len (t i : Nat) : (crP t i).length = i := by simp [crP]
theorem crP_succ (t i : Nat) : crP t (i + 1) = crP t i ++ [(2 * ((t - 1 - i : Nat) : Int) - 1, 2 * ((t - 1 - i : Nat) : Int) + 1)] := by simp [crP, List.range_succ]
def crL (t : Int) : List (Int × Int) := if tkOk t = true then crP t.toNat (t.toNat - 1) else []
theorem carriesOut_len (t : Int) : (crL t).length ≤ 1000 := by
  unfold crL; split
  · rename_i h; unfold tkOk inB at h; rw [crP_len]; simp at h; omega
  · simp
theorem cr_all : ∀ k : Nat, k < 12 → 1 ≤ k → (lowN (2 * (k : Int) + 1 - 2) (2 * (k : Int) + 1), lowD (2 * (k : Int) + 1 - 2) (2 * (k : Int) + 1)) = (2 * (k : Int) - 1, 2 * (k : Int) + 1) := by decide +kernel
theorem cr_con (k : Nat) (h1 : 1 ≤ k) (h9 : k ≤ 9) (W : World) :
    Calls Try.prog 63 #[.agg #[.int .i64 1, .int .i64 (2 * (k : Int) + 1)]] W fun e w' => e = .returned (.agg #[.int .i64 (2 * (k : Int) - 1), .int .i64 (2 * (k : Int) + 1)]) ∧ Below W.heap.size W w' := by
  have hc := tlt_impl (2 * (k : Int) + 1) (by omega) (by omega) W
  have hs := cr_all k (by omega) h1
  injection hs with h2 h3
  rw [h2, h3] at hc
  exact hc

set_option maxHeartbeats 3200000 in
theorem ways_some (t g cap : Nat) (ht : t ≤ 10) (w : World) (hL : LiesG 4 fDepot w ⟨g, 0, none⟩ cap (dpP 1 t (t - 1))) (hg : g < w.heap.size) :
    Calls Try.prog 64 #[.slice (some ⟨g, 0, none⟩) (t - 1) cap] w fun e w' => ∃ v, e = .returned v ∧ w'.ownsRow w.heap.size 26 2 v (t - 1) (cellsG fAmt (pL 1 t (t - 1))) ∧ Below w.heap.size w w' := by
  obtain ⟨i0, hi, hz0, hz1, hz2⟩ := info_parts infoAmt
  have hlc := hL.hlc
  rw [dpP_len] at hlc
  have hcap := hL.hcap
  go_enter Try.func64, Try.ntmps64
  go_wp2_with (go_at_call 52; refine (whole_is_impl _ _).mono ?_; rintro e w1 ⟨rfl, rfl⟩)
  go_loopw [3, 12] (fun u c wr => ∃ (i : Nat) (v : Value), v = u ∧ i ≤ t - 1 ∧ c = .int .i64 i ∧ wr.ownsRow (w.heap.size + 1 + 1) 26 2 v i (cellsG fAmt (pL 1 t i)) ∧
      wr.cell? ⟨w.heap.size + 1, 0, none⟩ = some (.int .i64 (atP 1 t i).1) ∧ wr.cell? ⟨w.heap.size + 1, 1, none⟩ = some (.int .i64 (atP 1 t i).2) ∧ wr.frozen? ⟨w.heap.size + 1, 0, none⟩ = false ∧ wr.frozen? ⟨w.heap.size + 1, 1, none⟩ = false ∧
      w.heap.size + 1 + 1 ≤ wr.heap.size ∧ Below w.heap.size w wr) (fun _ c _ => t - 1 - (intOf c).toNat)
  case atStart =>
    refine ⟨0, _, rfl, Nat.zero_le _, rfl, ⟨rfl, Or.inl ⟨rfl, rfl⟩⟩, by rw [at_zero]; simp [go_sem], by rw [at_zero]; simp [go_sem], by simp [go_sem], by simp [go_sem], by simp, ?_⟩
    (repeat (first | with_reducible exact Below.refl _ _ | with_reducible assumption | with_reducible refine balloc ?_ _ | with_reducible refine bdrew ?_ | with_reducible refine below_drewN ?_ _ | with_reducible refine bset ?_ ?_ _ | with_reducible exact Nat.le_refl _ | with_reducible refine bsize ?_ | (dsimp only; refine Nat.le_trans ?_ (Nat.le_add_right _ _)) | with_reducible refine Nat.le_trans ?_ (Nat.le_add_right _ _) | (with_reducible refine bstep ?_ (by assumption))))
  case round =>
    obtain ⟨i, v, rfl, hit, rfl, hown, s1, s2, s3, s4, hs, hbel⟩ := hrel
    by_cases hlt : i < t - 1
    · have hLr := liesG_below hL hbel
      have hpa := dpP_at 1 t i hlt
      have c0 := hLr.hcell i _ hpa 0 _ rfl
      have c1 := hLr.hcell i _ hpa 1 _ rfl
      have c2 := hLr.hcell i _ hpa 2 _ rfl
      have c3 := hLr.hcell i _ hpa 3 _ rfl
      rw [Addr.add_lit, Nat.zero_add] at c0 c1 c2 c3
      rw [Nat.add_zero] at c0
      have hsu := pL_succ 1 t i
      have hcon := fun W => wy_con t i (by omega) (by omega) W
      generalize (fuP 1 (t - 1 - i)).1 = f1 at *
      generalize (fuP 1 (t - 1 - i)).2 = f2 at *
      generalize drv 1 (t - 1 - i) = q at *
      generalize hX : (atP 1 t (i + 1)).1 = X at *
      generalize hY : (atP 1 t (i + 1)).2 = Y at *
      generalize (atP 1 t i).1 = x at *
      generalize (atP 1 t i).2 = y at *
      have hgr : g < wr.heap.size := cell_lt c0
      have hi20 : i ≤ 20 := by omega
      have HC := Lib.hid hcon
      have HS := Lib.hid hsu
      have HX := Lib.hid hX
      have HY := Lib.hid hY
      have ne3 : v.ownBlock ≠ some (w.heap.size + 1) := own_ne hown (by omega)
      clear hcon hsu hX hY hpa hLr hL
      have hs' : w.heap.size + 1 < wr.heap.size := by omega
      go_wp2_with fail
      refine (HC.out _).mono ?_
      rintro e w3 ⟨rfl, hb3⟩
      obtain ⟨kc3, kf3, kz3, ky3, kx3, kv3, ku3⟩ := bcell hb3
      have own3 : w3.ownsRow (w.heap.size + 1 + 1) 26 2 v i (cellsG fAmt (pL 1 t i)) := by (repeat (first | with_reducible assumption | with_reducible refine own_alloc ?_ _ | with_reducible refine own_drew ?_ | with_reducible refine own_set ?_ ?_ _ | with_reducible refine ownsRow_below ?_ (by assumption)))
      have q0 : w3.cell? ⟨w.heap.size + 1, 0, none⟩ = some (.int .i64 x) := by rw [kc3 _ _ (by simp; omega)]; simp [go_sem, s1, hs']
      have q1 : w3.cell? ⟨w.heap.size + 1, 1, none⟩ = some (.int .i64 y) := by rw [kc3 _ _ (by simp; omega)]; simp [go_sem, s2, hs']
      have q2 : w3.frozen? ⟨w.heap.size + 1, 0, none⟩ = false := by rw [kf3 _ _ (by simp; omega)]; simp [go_sem, s3, hs']
      have q3 : w3.frozen? ⟨w.heap.size + 1, 1, none⟩ = false := by rw [kf3 _ _ (by simp; omega)]; simp [go_sem, s4, hs']
      have b0 : w3.cell? ⟨wr.heap.size, 0, none⟩ = some (.int .i64 X) := by rw [kc3 _ _ (by simp)]; simp [go_sem]
      have b1 : w3.cell? ⟨wr.heap.size, 1, none⟩ = some (.int .i64 Y) := by rw [kc3 _ _ (by simp)]; simp [go_sem]
      have z3 : wr.heap.size < w3.heap.size := kz3 _ (by simp)
      have z4 : w.heap.size + 1 < w3.heap.size := by omega
      have bel3 : Below w.heap.size w w3 := by (repeat (first | with_reducible exact Below.refl _ _ | with_reducible assumption | with_reducible refine balloc ?_ _ | with_reducible refine bdrew ?_ | with_reducible refine below_drewN ?_ _ | with_reducible refine bset ?_ ?_ _ | with_reducible exact Nat.le_refl _ | with_reducible refine bsize ?_ | (dsimp only; refine Nat.le_trans ?_ (Nat.le_add_right _ _)) | with_reducible refine Nat.le_trans ?_ (Nat.le_add_right _ _) | (with_reducible refine bstep ?_ (by assumption))))
      have ne4 : v.ownBlock ≠ some wr.heap.size := fun e => by have := (hown.lt _ e).2; omega
      have nb : wr.heap.size ≠ w.heap.size + 1 := by omega
      have nb2 : w.heap.size + 1 ≠ wr.heap.size := by omega
      clear kc3 kf3 kz3 ky3 kx3 kv3 ku3 hb3 hbel s1 s2 s3 s4 hown hs hs' c0 c1 c2 c3
      go_wp2_with (at_builtin; refine wpList_append_own _ rfl _ _ 33 rfl (w.heap.size + 1 + 1) 26 i0 (.agg #[.int .i64 0, .int .i64 0]) 2 16 Try.underlying33 hi hz0 hz1 hz2 rfl (by decide) v i (cellsG fAmt (pL 1 t i)) rfl ?own ⟨_, 0, none⟩ 1 1 [.int .i64 1, .int .i64 q] rfl rfl ?c1 ?c2 ?c3 ?c4 ?c5 ?_)
      case own => (repeat (first | with_reducible assumption | with_reducible refine own_alloc ?_ _ | with_reducible refine own_drew ?_ | with_reducible refine own_set ?_ ?_ _ | with_reducible refine ownsRow_below ?_ (by assumption)))
      case c1 => first | exact cell_two_new _ _ _ _ | simp [go_sem]
      case c2 => simp [Value.oneCell']
      case c3 => unfold maxLen; omega
      case c4 => omega
      case c5 => simp; omega
      intro v' w4 hown' hgrow hnn
      have hown2 : w4.ownsRow (w.heap.size + 1 + 1) 26 2 v' (i + 1) (cellsG fAmt (pL 1 t (i + 1))) := by
        rw [HS.out, cellsG_snoc]; simpa [fAmt] using hown'
      have e0 : w4.cell? ⟨w.heap.size + 1, 0, none⟩ = some (.int .i64 x) := hgrow.cell (keepa (W0 := w3) (by (repeat (first | with_reducible exact Below.refl _ _ | with_reducible assumption | with_reducible refine balloc ?_ _ | with_reducible refine bdrew ?_ | with_reducible refine below_drewN ?_ _ | with_reducible refine bset ?_ ?_ _ | with_reducible exact Nat.le_refl _ | with_reducible refine bsize ?_ | (dsimp only; refine Nat.le_trans ?_ (Nat.le_add_right _ _)) | with_reducible refine Nat.le_trans ?_ (Nat.le_add_right _ _) | (with_reducible refine bstep ?_ (by assumption))))) z4 q0) (fun e => ne3 e.symm)
      have e1 : w4.cell? ⟨w.heap.size + 1, 1, none⟩ = some (.int .i64 y) := hgrow.cell (keepa (W0 := w3) (by (repeat (first | with_reducible exact Below.refl _ _ | with_reducible assumption | with_reducible refine balloc ?_ _ | with_reducible refine bdrew ?_ | with_reducible refine below_drewN ?_ _ | with_reducible refine bset ?_ ?_ _ | with_reducible exact Nat.le_refl _ | with_reducible refine bsize ?_ | (dsimp only; refine Nat.le_trans ?_ (Nat.le_add_right _ _)) | with_reducible refine Nat.le_trans ?_ (Nat.le_add_right _ _) | (with_reducible refine bstep ?_ (by assumption))))) z4 q1) (fun e => ne3 e.symm)
      have e2 : w4.frozen? ⟨w.heap.size + 1, 0, none⟩ = false := grown_frozen hgrow (keepf (W0 := w3) (by (repeat (first | with_reducible exact Below.refl _ _ | with_reducible assumption | with_reducible refine balloc ?_ _ | with_reducible refine bdrew ?_ | with_reducible refine below_drewN ?_ _ | with_reducible refine bset ?_ ?_ _ | with_reducible exact Nat.le_refl _ | with_reducible refine bsize ?_ | (dsimp only; refine Nat.le_trans ?_ (Nat.le_add_right _ _)) | with_reducible refine Nat.le_trans ?_ (Nat.le_add_right _ _) | (with_reducible refine bstep ?_ (by assumption))))) z4 q2) (by simp; omega) (fun e => ne3 e.symm)
      have e3 : w4.frozen? ⟨w.heap.size + 1, 1, none⟩ = false := grown_frozen hgrow (keepf (W0 := w3) (by (repeat (first | with_reducible exact Below.refl _ _ | with_reducible assumption | with_reducible refine balloc ?_ _ | with_reducible refine bdrew ?_ | with_reducible refine below_drewN ?_ _ | with_reducible refine bset ?_ ?_ _ | with_reducible exact Nat.le_refl _ | with_reducible refine bsize ?_ | (dsimp only; refine Nat.le_trans ?_ (Nat.le_add_right _ _)) | with_reducible refine Nat.le_trans ?_ (Nat.le_add_right _ _) | (with_reducible refine bstep ?_ (by assumption))))) z4 q3) (by simp; omega) (fun e => ne3 e.symm)
      have d0 : w4.cell? ⟨wr.heap.size, 0, none⟩ = some (.int .i64 X) := hgrow.cell (keepa (W0 := w3) (by (repeat (first | with_reducible exact Below.refl _ _ | with_reducible assumption | with_reducible refine balloc ?_ _ | with_reducible refine bdrew ?_ | with_reducible refine below_drewN ?_ _ | with_reducible refine bset ?_ ?_ _ | with_reducible exact Nat.le_refl _ | with_reducible refine bsize ?_ | (dsimp only; refine Nat.le_trans ?_ (Nat.le_add_right _ _)) | with_reducible refine Nat.le_trans ?_ (Nat.le_add_right _ _) | (with_reducible refine bstep ?_ (by assumption))))) z3 b0) (fun e => ne4 e.symm)
      have d1 : w4.cell? ⟨wr.heap.size, 1, none⟩ = some (.int .i64 Y) := hgrow.cell (keepa (W0 := w3) (by (repeat (first | with_reducible exact Below.refl _ _ | with_reducible assumption | with_reducible refine balloc ?_ _ | with_reducible refine bdrew ?_ | with_reducible refine below_drewN ?_ _ | with_reducible refine bset ?_ ?_ _ | with_reducible exact Nat.le_refl _ | with_reducible refine bsize ?_ | (dsimp only; refine Nat.le_trans ?_ (Nat.le_add_right _ _)) | with_reducible refine Nat.le_trans ?_ (Nat.le_add_right _ _) | (with_reducible refine bstep ?_ (by assumption))))) z3 b1) (fun e => ne4 e.symm)
      have bel4 : Below w.heap.size w w4 := by
        refine grown_bel (base := w.heap.size + 1 + 1) (e := 26) (size := 2) (n := i) (xs := cellsG fAmt (pL 1 t i)) ?_ hgrow (by (repeat (first | with_reducible assumption | with_reducible refine own_alloc ?_ _ | with_reducible refine own_drew ?_ | with_reducible refine own_set ?_ ?_ _ | with_reducible refine ownsRow_below ?_ (by assumption)))) (by omega)
        (repeat (first | with_reducible exact Below.refl _ _ | with_reducible assumption | with_reducible refine balloc ?_ _ | with_reducible refine bdrew ?_ | with_reducible refine below_drewN ?_ _ | with_reducible refine bset ?_ ?_ _ | with_reducible exact Nat.le_refl _ | with_reducible refine bsize ?_ | (dsimp only; refine Nat.le_trans ?_ (Nat.le_add_right _ _)) | with_reducible refine Nat.le_trans ?_ (Nat.le_add_right _ _) | (with_reducible refine bstep ?_ (by assumption))))
      have hz4 : w.heap.size + 1 < w4.heap.size := by have := hgrow.size; simp at this; omega
      have ne5 : v'.ownBlock ≠ some (w.heap.size + 1) := own_ne hown' (by omega)
      clear hown' hgrow hnn own3 q0 q1 q2 q3 b0 b1 z3 z4 bel3 ne3 ne4
      go_wp2
      go_roundw
      case rel =>
        refine ⟨i + 1, _, rfl, by omega, by go_num, ?_, by rw [HX.out]; simp [go_sem, e0, e1, hz4], by rw [HY.out]; simp [go_sem, e0, e1, hz4], by simp [go_sem, e2, e3, hz4], by simp [go_sem, e2, e3, hz4], by simp; omega, ?_⟩
        · first | exact own_set (own_set hown2 ne5 _) ne5 _ | exact hown2
        · (repeat (first | with_reducible exact Below.refl _ _ | with_reducible assumption | with_reducible refine balloc ?_ _ | with_reducible refine bdrew ?_ | with_reducible refine below_drewN ?_ _ | with_reducible refine bset ?_ ?_ _ | with_reducible exact Nat.le_refl _ | with_reducible refine bsize ?_ | (dsimp only; refine Nat.le_trans ?_ (Nat.le_add_right _ _)) | with_reducible refine Nat.le_trans ?_ (Nat.le_add_right _ _) | (with_reducible refine bstep ?_ (by assumption))))
          all_goals (simp; done)
      case measure => simp [intOf]; omega
    · have hit' : i = t - 1 := by omega
      subst hit'
      clear hL
      go_wp2
      go_ret
      exact ⟨_, rfl, own_mono hown (by omega), hbel⟩

theorem ways_nil (c : Nat) (w : World) :
    Calls Try.prog 64 #[.slice none 0 c] w fun e w' => ∃ v, e = .returned v ∧ w'.ownsRow w.heap.size 26 2 v 0 [] ∧ Below w.heap.size w w' := by
  go_enter Try.func64, Try.ntmps64
  go_wp2_with (go_at_call 52; refine (whole_is_impl _ _).mono ?_; rintro e w1 ⟨rfl, rfl⟩)
  go_loopw [3, 12] (fun v i wr => v = .slice none 0 0 ∧ i = .int .i64 0 ∧ Below w.heap.size w wr) (fun _ _ _ => 0)
  case atStart =>
    refine ⟨rfl, rfl, ?_⟩
    (repeat (first | with_reducible exact Below.refl _ _ | with_reducible assumption | with_reducible refine balloc ?_ _ | with_reducible refine bdrew ?_ | with_reducible refine below_drewN ?_ _ | with_reducible refine bset ?_ ?_ _ | with_reducible exact Nat.le_refl _ | with_reducible refine bsize ?_ | (dsimp only; refine Nat.le_trans ?_ (Nat.le_add_right _ _)) | with_reducible refine Nat.le_trans ?_ (Nat.le_add_right _ _) | (with_reducible refine bstep ?_ (by assumption))))
  case round =>
    obtain ⟨rfl, rfl, hbel⟩ := hrel
    go_wp2
    go_ret
    exact ⟨_, rfl, ⟨rfl, Or.inl ⟨rfl, rfl⟩⟩, hbel⟩
theorem ways_impl (t : Nat) (ht : t ≤ 10) (v : Value) (w0 w : World) (base : Nat) (h : w.ownsRow base 41 4 v (t - 1) (cellsG fDepot (dpP 1 t (t - 1)))) (hbd : ∀ p ∈ dpP 1 t (t - 1), ∀ y ∈ fDepot p, -9223372036854775808 ≤ y ∧ y ≤ 9223372036854775807) :
    Calls Try.prog 64 #[v] w fun e w' => ∃ u, e = .returned u ∧ w'.ownsRow w.heap.size 26 2 u (t - 1) (cellsG fAmt (pL 1 t (t - 1))) ∧ Below w.heap.size w w' := by
  have h' := h
  obtain ⟨_, hs⟩ := h
  rcases hs with ⟨rfl, h0⟩ | ⟨g, cap, cur, rfl, _⟩
  · rw [h0]
    exact ways_nil 0 w
  · have hL := liesG_own (l := dpP 1 t (t - 1)) fDepot_len (by rw [dpP_len]; exact h') hbd
    exact ways_some t g cap ht w hL (own_lt h' rfl)
end Go.Proofs.Ytgpbkjakmbmccaa
