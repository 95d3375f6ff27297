/- Contracts of jeDepots, of the model. -/
import Derived.Test.YtgpbkjakmbmccaaDepP
import Derived.Test.YtgpbkjakmbmccaaPubS1
import Derived.Deep.RegionWith
namespace Go.Proofs.Ytgpbkjakmbmccaa
open Go.ChangeShapes Go.WideShapes Go.ChangeAt Go.RowKit Go.Joins
set_option maxRecDepth 100000
set_option linter.unusedVariables false
set_option linter.unusedSimpArgs false

set_option maxHeartbeats 3200000 in
theorem jeDep_1 (t : Nat) (ht : t ≤ 10) (w : World) :
    Calls Try.prog 61 #[.int .i64 t, .bool false] w fun e w' => ∃ v, e = .returned v ∧ w'.ownsRow w.heap.size 41 4 v (t - 1) (cellsG fDepot (dpP 1 t (t - 1))) ∧ Below w.heap.size w w' := by
  obtain ⟨i0, hi, hz0, hz1, hz2⟩ := info_parts infoDep
  go_enter Try.func61, Try.ntmps61
  go_wp2_with (go_at_call 65; refine (whole_is_spec _ _).mono ?_; rintro e w1 ⟨rfl, rfl⟩)
  go_loopw [5, 7] (fun u c wr => ∃ (i : Nat) (v : Value), v = u ∧ i ≤ t - 1 ∧ c = .int .i64 ((t : Int) - 1 - i) ∧ wr.ownsRow (w.heap.size + 1 + 1) 41 4 v i (cellsG fDepot (dpP 1 t i)) ∧
      wr.cell? ⟨w.heap.size + 1, 0, none⟩ = some (.int .i64 (atP 1 t i).1) ∧ wr.cell? ⟨w.heap.size + 1, 1, none⟩ = some (.int .i64 (atP 1 t i).2) ∧ wr.frozen? ⟨w.heap.size + 1, 0, none⟩ = false ∧ wr.frozen? ⟨w.heap.size + 1, 1, none⟩ = false ∧
      w.heap.size + 1 + 1 ≤ wr.heap.size ∧ Below w.heap.size w wr) (fun _ c _ => (intOf c + 1).toNat)
  case atStart =>
    refine ⟨0, _, rfl, Nat.zero_le _, by simp, ⟨rfl, Or.inl ⟨rfl, rfl⟩⟩, by rw [at_zero]; simp [go_sem], by rw [at_zero]; simp [go_sem], by simp [go_sem], by simp [go_sem], by simp, ?_⟩
    (repeat (first | with_reducible exact Below.refl _ _ | with_reducible assumption | with_reducible refine balloc ?_ _ | with_reducible refine bdrew ?_ | with_reducible refine below_drewN ?_ _ | with_reducible refine bset ?_ ?_ _ | with_reducible exact Nat.le_refl _ | with_reducible refine bsize ?_ | (dsimp only; refine Nat.le_trans ?_ (Nat.le_add_right _ _)) | with_reducible refine Nat.le_trans ?_ (Nat.le_add_right _ _) | (with_reducible refine bstep ?_ (by assumption))))
  case round =>
    obtain ⟨i, v, rfl, hit, rfl, hown, s1, s2, s3, s4, hs, hbel⟩ := hrel
    by_cases hlt : i < t - 1
    · obtain ⟨k, hk⟩ : ∃ k : Nat, k + i + 1 = t := ⟨t - 1 - i, by omega⟩
      have hc : (t : Int) - 1 - i = (k : Int) := by omega
      rw [hc]
      have hk1 : 1 ≤ k := by omega
      have hk2 : k ≤ 9 := by omega
      have hdn := dpP_succ 1 t i
      have hst := at_step 1 t i (Or.inl rfl) (by omega) (by omega)
      have ek : t - 1 - i = k := by omega
      obtain ⟨t1, t2, t3, t4, t5⟩ := hst
      rw [ek] at t2 t3 t4 t5 hdn
      have ed : drv 1 k = (2 * (k : Int) + 1) := rfl
      rw [ed] at t2 t3 t4 t5
      have hx := am_of _ _ t1
      have hu := am_of _ _ t2
      have hcon := fun W => amAdd_spec (atP 1 t i).1 (atP 1 t i).2 1 (2 * (k : Int) + 1) hx hu W
      rw [t3, t4, t5] at hcon
      clear hx hu t1 t2 t3 t4 t5 ed
      generalize hZ : atP 1 t (i + 1) = Z at *
      obtain ⟨X, Y⟩ := Z
      dsimp only at hcon hdn
      have HZ := Lib.hid hZ
      clear hZ
      generalize (atP 1 t i).1 = x at *
      generalize (atP 1 t i).2 = y at *
      have HC := Lib.hid hcon
      have HK := Lib.hid hk
      have HD := Lib.hid hdn
      clear hcon hc hk hdn ek
      go_wp2_with fail
      refine (HC.out _).mono ?_
      rintro e w3 ⟨rfl, hb3⟩
      obtain ⟨kc3, kf3, kz3, ky3, kx3, kv3, ku3⟩ := bcell hb3
      have own3 : w3.ownsRow (w.heap.size + 1 + 1) 41 4 v i (cellsG fDepot (dpP 1 t i)) := by
        refine ownsRow_below ?_ hb3
        first | exact hown | exact hown.alloc _
      have q0 := (kc3 (w.heap.size + 1) 0 (by first | omega | (simp; omega))).trans s1
      have q1 := (kc3 (w.heap.size + 1) 1 (by first | omega | (simp; omega))).trans s2
      have q2 := (kf3 (w.heap.size + 1) 0 (by first | omega | (simp; omega))).trans s3
      have q3 := (kf3 (w.heap.size + 1) 1 (by first | omega | (simp; omega))).trans s4
      have hz3 : w.heap.size + 1 < w3.heap.size := kz3 (w.heap.size + 1) (by first | omega | (simp; omega))
      have ne3 : v.ownBlock ≠ some (w.heap.size + 1) := own_ne hown (by omega)
      have bel3 : Below w.heap.size w w3 := by (repeat (first | with_reducible exact Below.refl _ _ | with_reducible assumption | with_reducible refine balloc ?_ _ | with_reducible refine bdrew ?_ | with_reducible refine below_drewN ?_ _ | with_reducible refine bset ?_ ?_ _ | with_reducible exact Nat.le_refl _ | with_reducible refine bsize ?_ | (dsimp only; refine Nat.le_trans ?_ (Nat.le_add_right _ _)) | with_reducible refine Nat.le_trans ?_ (Nat.le_add_right _ _) | (with_reducible refine bstep ?_ (by assumption))))
      have hi20 : i ≤ 20 := by omega
      clear kc3 kf3 kz3 ky3 kx3 kv3 ku3 hown s1 s2 s3 s4 hbel hb3 HC
      go_wp2_with fail
      have c0 : ((w3.setCell ⟨w.heap.size + 1, 0, none⟩ (.int .i64 X)).setCell ⟨w.heap.size + 1, 1, none⟩ (.int .i64 Y)).cell? ⟨w.heap.size + 1, 0, none⟩ = some (.int .i64 X) := by simp [go_sem, hz3, q0, q1]
      have c1 : ((w3.setCell ⟨w.heap.size + 1, 0, none⟩ (.int .i64 X)).setCell ⟨w.heap.size + 1, 1, none⟩ (.int .i64 Y)).cell? ⟨w.heap.size + 1, 1, none⟩ = some (.int .i64 Y) := by simp [go_sem, hz3, q0, q1]
      have c2 : ((w3.setCell ⟨w.heap.size + 1, 0, none⟩ (.int .i64 X)).setCell ⟨w.heap.size + 1, 1, none⟩ (.int .i64 Y)).frozen? ⟨w.heap.size + 1, 0, none⟩ = false := by simp [go_sem, hz3, q2, q3]
      have c3 : ((w3.setCell ⟨w.heap.size + 1, 0, none⟩ (.int .i64 X)).setCell ⟨w.heap.size + 1, 1, none⟩ (.int .i64 Y)).frozen? ⟨w.heap.size + 1, 1, none⟩ = false := by simp [go_sem, hz3, q2, q3]
      have c4 : w.heap.size + 1 < ((w3.setCell ⟨w.heap.size + 1, 0, none⟩ (.int .i64 X)).setCell ⟨w.heap.size + 1, 1, none⟩ (.int .i64 Y)).heap.size := by simpa using hz3
      have c5 : ((w3.setCell ⟨w.heap.size + 1, 0, none⟩ (.int .i64 X)).setCell ⟨w.heap.size + 1, 1, none⟩ (.int .i64 Y)).ownsRow (w.heap.size + 1 + 1) 41 4 v i (cellsG fDepot (dpP 1 t i)) := own_set (own_set own3 ne3 _) ne3 _
      have c6 : Below w.heap.size w ((w3.setCell ⟨w.heap.size + 1, 0, none⟩ (.int .i64 X)).setCell ⟨w.heap.size + 1, 1, none⟩ (.int .i64 Y)) := bset (bset bel3 (by simp) _) (by simp) _
      generalize (w3.setCell ⟨w.heap.size + 1, 0, none⟩ (.int .i64 X)).setCell ⟨w.heap.size + 1, 1, none⟩ (.int .i64 Y) = W4 at *
      clear q0 q1 q2 q3 hz3 own3 bel3
      have q0 := c0
      have q1 := c1
      have q2 := c2
      have q3 := c3
      have hz3 := c4
      have own3 := c5
      have bel3 := c6
      clear c0 c1 c2 c3 c4 c5 c6
      go_region_held_law (fun w' => w'.cell? ⟨w.heap.size + 1, 0, none⟩ = some (.int .i64 X) ∧ w'.cell? ⟨w.heap.size + 1, 1, none⟩ = some (.int .i64 Y)) (first | exact ⟨by assumption, by assumption⟩ | exact ⟨keepa (W0 := W4) (by (repeat (first | with_reducible exact Below.refl _ _ | with_reducible assumption | with_reducible refine balloc ?_ _ | with_reducible refine bdrew ?_ | with_reducible refine below_drewN ?_ _ | with_reducible refine bset ?_ ?_ _ | with_reducible exact Nat.le_refl _ | with_reducible refine bsize ?_ | (dsimp only; refine Nat.le_trans ?_ (Nat.le_add_right _ _)) | with_reducible refine Nat.le_trans ?_ (Nat.le_add_right _ _) | (with_reducible refine bstep ?_ (by assumption))))) hz3 q0, keepa (W0 := W4) (by (repeat (first | with_reducible exact Below.refl _ _ | with_reducible assumption | with_reducible refine balloc ?_ _ | with_reducible refine bdrew ?_ | with_reducible refine below_drewN ?_ _ | with_reducible refine bset ?_ ?_ _ | with_reducible exact Nat.le_refl _ | with_reducible refine bsize ?_ | (dsimp only; refine Nat.le_trans ?_ (Nat.le_add_right _ _)) | with_reducible refine Nat.le_trans ?_ (Nat.le_add_right _ _) | (with_reducible refine bstep ?_ (by assumption))))) hz3 q1⟩) (first | (go_at_call 65; refine (whole_is_spec _ _).mono ?_; rintro e w1 ⟨rfl, rfl⟩) | (refine step_append_own rfl (.tmp 45) (.tmp 50) 36 rfl (w.heap.size + 1 + 1) 41 i0 (.agg #[.int .i64 0, .int .i64 0, .int .i64 0, .int .i64 0]) 4 32 Try.underlying36 hi hz0 hz1 hz2 rfl (by decide) v i (cellsG fDepot (dpP 1 t i)) ?c6 ?own ⟨W4.heap.size + 1, 0, none⟩ 1 1 [.int .i64 X, .int .i64 Y, .int .i64 k, .int .i64 1] ?c7 rfl ?c1 ?c2 ?c3 ?c4 ?c5 ?_; (case own => (repeat (first | with_reducible assumption | with_reducible refine own_alloc ?_ _ | with_reducible refine own_drew ?_ | with_reducible refine own_set ?_ ?_ _))); (case c1 => first | exact cell_four_new _ _ _ _ _ _ | simp [go_sem]); (case c2 => simp [Value.oneCell']); (case c3 => unfold maxLen; omega); (case c4 => omega); (case c5 => simp; omega); (case c6 => simp [Act.eval, Act.put]); (case c7 => simp [Act.eval, Act.put]); intro v' w4 hown' hgrow; (have e0 : w4.cell? ⟨w.heap.size + 1, 0, none⟩ = some (.int .i64 X) := hgrow.cell (keepa (W0 := W4) (by (repeat (first | with_reducible exact Below.refl _ _ | with_reducible assumption | with_reducible refine balloc ?_ _ | with_reducible refine bdrew ?_ | with_reducible refine below_drewN ?_ _ | with_reducible refine bset ?_ ?_ _ | with_reducible exact Nat.le_refl _ | with_reducible refine bsize ?_ | (dsimp only; refine Nat.le_trans ?_ (Nat.le_add_right _ _)) | with_reducible refine Nat.le_trans ?_ (Nat.le_add_right _ _) | (with_reducible refine bstep ?_ (by assumption))))) hz3 q0) (fun e => ne3 e.symm)); (have e1 : w4.cell? ⟨w.heap.size + 1, 1, none⟩ = some (.int .i64 Y) := hgrow.cell (keepa (W0 := W4) (by (repeat (first | with_reducible exact Below.refl _ _ | with_reducible assumption | with_reducible refine balloc ?_ _ | with_reducible refine bdrew ?_ | with_reducible refine below_drewN ?_ _ | with_reducible refine bset ?_ ?_ _ | with_reducible exact Nat.le_refl _ | with_reducible refine bsize ?_ | (dsimp only; refine Nat.le_trans ?_ (Nat.le_add_right _ _)) | with_reducible refine Nat.le_trans ?_ (Nat.le_add_right _ _) | (with_reducible refine bstep ?_ (by assumption))))) hz3 q1) (fun e => ne3 e.symm))))
      all_goals
        have hown2 : w4.ownsRow (w.heap.size + 1 + 1) 41 4 v' (i + 1) (cellsG fDepot (dpP 1 t (i + 1))) := by
          rw [HD.out, cellsG_snoc]; simpa [fDepot, fuP] using hown'
        have e2 : w4.frozen? ⟨w.heap.size + 1, 0, none⟩ = false := grown_frozen hgrow (keepf (W0 := W4) (by (repeat (first | with_reducible exact Below.refl _ _ | with_reducible assumption | with_reducible refine balloc ?_ _ | with_reducible refine bdrew ?_ | with_reducible refine below_drewN ?_ _ | with_reducible refine bset ?_ ?_ _ | with_reducible exact Nat.le_refl _ | with_reducible refine bsize ?_ | (dsimp only; refine Nat.le_trans ?_ (Nat.le_add_right _ _)) | with_reducible refine Nat.le_trans ?_ (Nat.le_add_right _ _) | (with_reducible refine bstep ?_ (by assumption))))) hz3 q2) (by simp; omega) (fun e => ne3 e.symm)
        have e3 : w4.frozen? ⟨w.heap.size + 1, 1, none⟩ = false := grown_frozen hgrow (keepf (W0 := W4) (by (repeat (first | with_reducible exact Below.refl _ _ | with_reducible assumption | with_reducible refine balloc ?_ _ | with_reducible refine bdrew ?_ | with_reducible refine below_drewN ?_ _ | with_reducible refine bset ?_ ?_ _ | with_reducible exact Nat.le_refl _ | with_reducible refine bsize ?_ | (dsimp only; refine Nat.le_trans ?_ (Nat.le_add_right _ _)) | with_reducible refine Nat.le_trans ?_ (Nat.le_add_right _ _) | (with_reducible refine bstep ?_ (by assumption))))) hz3 q3) (by simp; omega) (fun e => ne3 e.symm)
        have bel4 : Below w.heap.size w w4 := by
          refine grown_bel (base := w.heap.size + 1 + 1) (e := 41) (size := 4) (n := i) (xs := cellsG fDepot (dpP 1 t i)) ?_ hgrow (by (repeat (first | with_reducible assumption | with_reducible refine own_alloc ?_ _ | with_reducible refine own_drew ?_ | with_reducible refine own_set ?_ ?_ _))) (by omega)
          (repeat (first | with_reducible exact Below.refl _ _ | with_reducible assumption | with_reducible refine balloc ?_ _ | with_reducible refine bdrew ?_ | with_reducible refine below_drewN ?_ _ | with_reducible refine bset ?_ ?_ _ | with_reducible exact Nat.le_refl _ | with_reducible refine bsize ?_ | (dsimp only; refine Nat.le_trans ?_ (Nat.le_add_right _ _)) | with_reducible refine Nat.le_trans ?_ (Nat.le_add_right _ _) | (with_reducible refine bstep ?_ (by assumption))))
        have hz4 : w.heap.size + 1 + 1 ≤ w4.heap.size := by have := hgrow.size; simp at this; omega
        clear hown' hgrow own3 q0 q1 q2 q3 hz3 ne3 bel3
        go_wp2
        go_roundw
        case rel => exact ⟨i + 1, _, rfl, by omega, by have := HK.out; congr 1; omega, hown2, by rw [HZ.out]; exact e0, by rw [HZ.out]; exact e1, e2, e3, hz4, bel4⟩
        case measure => first | (simp [intOf]; done) | (simp [intOf]; omega)
    · have hit' : i = t - 1 := by omega
      subst hit'
      have hc : ∃ y : Int, (t : Int) - 1 - ((t - 1 : Nat) : Int) = y ∧ y ≤ 0 ∧ -1 ≤ y := ⟨_, rfl, by omega, by omega⟩
      obtain ⟨y, hy, y0, y1⟩ := hc
      rw [hy]
      clear hy
      go_wp2
      go_ret
      exact ⟨_, rfl, own_mono hown (by omega), hbel⟩
set_option maxHeartbeats 3200000 in
theorem jeDep_2 (t : Nat) (ht : t ≤ 10) (w : World) :
    Calls Try.prog 61 #[.int .i64 t, .bool true] w fun e w' => ∃ v, e = .returned v ∧ w'.ownsRow w.heap.size 41 4 v (t - 1) (cellsG fDepot (dpP 2 t (t - 1))) ∧ Below w.heap.size w w' := by
  obtain ⟨i0, hi, hz0, hz1, hz2⟩ := info_parts infoDep
  go_enter Try.func61, Try.ntmps61
  go_wp2_with (go_at_call 65; refine (whole_is_spec _ _).mono ?_; rintro e w1 ⟨rfl, rfl⟩)
  go_loopw [5, 7] (fun u c wr => ∃ (i : Nat) (v : Value), v = u ∧ i ≤ t - 1 ∧ c = .int .i64 ((t : Int) - 1 - i) ∧ wr.ownsRow (w.heap.size + 1 + 1) 41 4 v i (cellsG fDepot (dpP 2 t i)) ∧
      wr.cell? ⟨w.heap.size + 1, 0, none⟩ = some (.int .i64 (atP 2 t i).1) ∧ wr.cell? ⟨w.heap.size + 1, 1, none⟩ = some (.int .i64 (atP 2 t i).2) ∧ wr.frozen? ⟨w.heap.size + 1, 0, none⟩ = false ∧ wr.frozen? ⟨w.heap.size + 1, 1, none⟩ = false ∧
      w.heap.size + 1 + 1 ≤ wr.heap.size ∧ Below w.heap.size w wr) (fun _ c _ => (intOf c + 1).toNat)
  case atStart =>
    refine ⟨0, _, rfl, Nat.zero_le _, by simp, ⟨rfl, Or.inl ⟨rfl, rfl⟩⟩, by rw [at_zero]; simp [go_sem], by rw [at_zero]; simp [go_sem], by simp [go_sem], by simp [go_sem], by simp, ?_⟩
    (repeat (first | with_reducible exact Below.refl _ _ | with_reducible assumption | with_reducible refine balloc ?_ _ | with_reducible refine bdrew ?_ | with_reducible refine below_drewN ?_ _ | with_reducible refine bset ?_ ?_ _ | with_reducible exact Nat.le_refl _ | with_reducible refine bsize ?_ | (dsimp only; refine Nat.le_trans ?_ (Nat.le_add_right _ _)) | with_reducible refine Nat.le_trans ?_ (Nat.le_add_right _ _) | (with_reducible refine bstep ?_ (by assumption))))
  case round =>
    obtain ⟨i, v, rfl, hit, rfl, hown, s1, s2, s3, s4, hs, hbel⟩ := hrel
    by_cases hlt : i < t - 1
    · obtain ⟨k, hk⟩ : ∃ k : Nat, k + i + 1 = t := ⟨t - 1 - i, by omega⟩
      have hc : (t : Int) - 1 - i = (k : Int) := by omega
      rw [hc]
      have hk1 : 1 ≤ k := by omega
      have hk2 : k ≤ 9 := by omega
      have hdn := dpP_succ 2 t i
      have hst := at_step 2 t i (Or.inr rfl) (by omega) (by omega)
      have ek : t - 1 - i = k := by omega
      obtain ⟨t1, t2, t3, t4, t5⟩ := hst
      rw [ek] at t2 t3 t4 t5 hdn
      have ed : drv 2 k = (2 * (k : Int) + 2) := rfl
      rw [ed] at t2 t3 t4 t5
      have hx := am_of _ _ t1
      have hu := am_of _ _ t2
      have hcon := fun W => amAdd_spec (atP 2 t i).1 (atP 2 t i).2 1 (2 * (k : Int) + 2) hx hu W
      rw [t3, t4, t5] at hcon
      clear hx hu t1 t2 t3 t4 t5 ed
      generalize hZ : atP 2 t (i + 1) = Z at *
      obtain ⟨X, Y⟩ := Z
      dsimp only at hcon hdn
      have HZ := Lib.hid hZ
      clear hZ
      generalize (atP 2 t i).1 = x at *
      generalize (atP 2 t i).2 = y at *
      have HC := Lib.hid hcon
      have HK := Lib.hid hk
      have HD := Lib.hid hdn
      clear hcon hc hk hdn ek
      go_wp2_with fail
      refine (HC.out _).mono ?_
      rintro e w3 ⟨rfl, hb3⟩
      obtain ⟨kc3, kf3, kz3, ky3, kx3, kv3, ku3⟩ := bcell hb3
      have own3 : w3.ownsRow (w.heap.size + 1 + 1) 41 4 v i (cellsG fDepot (dpP 2 t i)) := by
        refine ownsRow_below ?_ hb3
        first | exact hown | exact hown.alloc _
      have q0 := (kc3 (w.heap.size + 1) 0 (by first | omega | (simp; omega))).trans s1
      have q1 := (kc3 (w.heap.size + 1) 1 (by first | omega | (simp; omega))).trans s2
      have q2 := (kf3 (w.heap.size + 1) 0 (by first | omega | (simp; omega))).trans s3
      have q3 := (kf3 (w.heap.size + 1) 1 (by first | omega | (simp; omega))).trans s4
      have hz3 : w.heap.size + 1 < w3.heap.size := kz3 (w.heap.size + 1) (by first | omega | (simp; omega))
      have ne3 : v.ownBlock ≠ some (w.heap.size + 1) := own_ne hown (by omega)
      have bel3 : Below w.heap.size w w3 := by (repeat (first | with_reducible exact Below.refl _ _ | with_reducible assumption | with_reducible refine balloc ?_ _ | with_reducible refine bdrew ?_ | with_reducible refine below_drewN ?_ _ | with_reducible refine bset ?_ ?_ _ | with_reducible exact Nat.le_refl _ | with_reducible refine bsize ?_ | (dsimp only; refine Nat.le_trans ?_ (Nat.le_add_right _ _)) | with_reducible refine Nat.le_trans ?_ (Nat.le_add_right _ _) | (with_reducible refine bstep ?_ (by assumption))))
      have hi20 : i ≤ 20 := by omega
      clear kc3 kf3 kz3 ky3 kx3 kv3 ku3 hown s1 s2 s3 s4 hbel hb3 HC
      have m1 : 0 ≤ (k : Int) * k ∧ (k : Int) * k ≤ 81 := by
        have h1 : (k : Int) ≤ 9 := by omega
        exact ⟨Int.mul_nonneg (by omega) (by omega), Int.mul_le_mul h1 h1 (by omega) (by omega)⟩
      obtain ⟨m1, m2⟩ := m1
      go_wp2_with (at_builtin; refine wpList_append_own _ rfl _ _ 36 rfl (w.heap.size + 1 + 1) 41 i0 (.agg #[.int .i64 0, .int .i64 0, .int .i64 0, .int .i64 0]) 4 32 Try.underlying36 hi hz0 hz1 hz2 rfl (by decide) v i (cellsG fDepot (dpP 2 t i)) rfl ?own ⟨_, 0, none⟩ 1 1 [.int .i64 X, .int .i64 Y, .int .i64 ((k : Int) * k), .int .i64 ((k : Int) + 1)] rfl rfl ?c1 ?c2 ?c3 ?c4 ?c5 ?_)
      (case own => (repeat (first | with_reducible assumption | with_reducible refine own_alloc ?_ _ | with_reducible refine own_drew ?_ | with_reducible refine own_set ?_ ?_ _))); (case c1 => first | exact cell_four_new _ _ _ _ _ _ | simp [go_sem]); (case c2 => simp [Value.oneCell']); (case c3 => unfold maxLen; omega); (case c4 => omega); (case c5 => simp; omega)
      intro v' w4 hown' hgrow hnn
      all_goals
        have hown2 : w4.ownsRow (w.heap.size + 1 + 1) 41 4 v' (i + 1) (cellsG fDepot (dpP 2 t (i + 1))) := by
          rw [HD.out, cellsG_snoc]; simpa [fDepot, fuP] using hown'
        have e0 : w4.cell? ⟨w.heap.size + 1, 0, none⟩ = some (.int .i64 X) := hgrow.cell (by simp [go_sem, hz3, q0, q1]) (fun e => ne3 e.symm)
        have e1 : w4.cell? ⟨w.heap.size + 1, 1, none⟩ = some (.int .i64 Y) := hgrow.cell (by simp [go_sem, hz3, q0, q1]) (fun e => ne3 e.symm)
        have e2 : w4.frozen? ⟨w.heap.size + 1, 0, none⟩ = false := grown_frozen hgrow (by simp [go_sem, hz3, q2, q3]) (by simp; omega) (fun e => ne3 e.symm)
        have e3 : w4.frozen? ⟨w.heap.size + 1, 1, none⟩ = false := grown_frozen hgrow (by simp [go_sem, hz3, q2, q3]) (by simp; omega) (fun e => ne3 e.symm)
        have bel4 : Below w.heap.size w w4 := by
          refine grown_bel (base := w.heap.size + 1 + 1) (e := 41) (size := 4) (n := i) (xs := cellsG fDepot (dpP 2 t i)) ?_ hgrow (by (repeat (first | with_reducible assumption | with_reducible refine own_alloc ?_ _ | with_reducible refine own_drew ?_ | with_reducible refine own_set ?_ ?_ _))) (by omega)
          (repeat (first | with_reducible exact Below.refl _ _ | with_reducible assumption | with_reducible refine balloc ?_ _ | with_reducible refine bdrew ?_ | with_reducible refine below_drewN ?_ _ | with_reducible refine bset ?_ ?_ _ | with_reducible exact Nat.le_refl _ | with_reducible refine bsize ?_ | (dsimp only; refine Nat.le_trans ?_ (Nat.le_add_right _ _)) | with_reducible refine Nat.le_trans ?_ (Nat.le_add_right _ _) | (with_reducible refine bstep ?_ (by assumption))))
        have hz4 : w.heap.size + 1 + 1 ≤ w4.heap.size := by have := hgrow.size; simp at this; omega
        clear hown' hgrow own3 q0 q1 q2 q3 hz3 ne3 bel3
        go_wp2
        go_roundw
        case rel => exact ⟨i + 1, _, rfl, by omega, by have := HK.out; congr 1; omega, hown2, by rw [HZ.out]; exact e0, by rw [HZ.out]; exact e1, e2, e3, hz4, bel4⟩
        case measure => first | (simp [intOf]; done) | (simp [intOf]; omega)
    · have hit' : i = t - 1 := by omega
      subst hit'
      have hc : ∃ y : Int, (t : Int) - 1 - ((t - 1 : Nat) : Int) = y ∧ y ≤ 0 ∧ -1 ≤ y := ⟨_, rfl, by omega, by omega⟩
      obtain ⟨y, hy, y0, y1⟩ := hc
      rw [hy]
      clear hy
      go_wp2
      go_ret
      exact ⟨_, rfl, own_mono hown (by omega), hbel⟩
end Go.Proofs.Ytgpbkjakmbmccaa
