/- The laws' draws: numbers of vehicles. -/
import Derived.Test.YtgpbkjakmbmccaaCurD
import Derived.Test.YtgpbkjakmbmccaaCamM
namespace Go.Proofs.Ytgpbkjakmbmccaa
open Go.ChangeShapes Go.WideShapes Go.ChangeAt Go.RowKit Go.Joins
set_option maxRecDepth 100000
set_option linter.unusedVariables false
set_option linter.unusedSimpArgs false

theorem list_cells (w : World) (l : List Int) (t : TypeId) : ∀ i x, l[i]? = some x → (w.alloc (.cells (l.map (Value.int .i64)).toArray t)).cell? ⟨w.heap.size, i, none⟩ = some (.int .i64 x) := by
  intro i x h
  simp [h]
theorem keep_alloc {b : Nat} {w w' : World} {o : Obj} (h : CurKeep b (w.alloc o) w') : CurKeep b w w' := by
  refine ⟨fun w0 hb h0 => h.1 w0 hb (balloc h0 _), fun g k hg hz => ?_⟩
  rw [h.2 g k hg (by simp; omega)]
  exact (balloc (Below.refl w.heap.size w) o).cell (p := ⟨g, k, none⟩) hz
theorem cur_alloc {b : Nat} {v : Value} {N : Nat} {w : World} (h : CurAt b v N w) (o : Obj) : CurAt b v N (w.alloc o) := by
  obtain ⟨k, s, c0, c1, c2, f1, f2, bz, hk⟩ := h
  have hb := balloc (Below.refl w.heap.size w) o
  exact ⟨k, s, keepa hb bz c0, keepa hb bz c1, keepa hb bz c2, keepz hb bz f1, keepz hb bz f2, Nat.lt_of_lt_of_le bz hb.size, hk⟩
set_option maxHeartbeats 1600000 in
theorem vehicles_c (b : Nat) (v : Value) (N : Nat) (hN : N ≤ 1000000) (w w0 : World) (hw0 : w0.heap.size ≤ b) (hb0 : Below w0.heap.size w0 w) (hv : BytesAt w0 v) (hC : CurAt b v N w) :
    Calls Try.prog 104 #[.pointer (some ⟨b, 0, none⟩)] w fun e w' => (∃ x : Int, e = .returned (.int .i64 x) ∧ -1 ≤ x ∧ x ≤ 21) ∧ CurAt b v (N + 1) w' ∧ CurKeep b w w' := by
  have hne : w.heap.size ≠ b := by obtain ⟨k, s, c0, c1, c2, f1, f2, bz, hk⟩ := hC; omega
  have HA := Lib.hid (fun t => among_c b v N hN [1, 2, 3, 4, 5, 8, 20, 21, 0, -1] (by simp) (by simp) w.heap.size (w.alloc (.cells (([1, 2, 3, 4, 5, 8, 20, 21, 0, -1] : List Int).map (Value.int .i64)).toArray t)) w0 hw0 (balloc hb0 _) hv (cur_alloc hC _) hne (list_cells w _ t))
  clear hC hv hb0
  go_enter Try.func104, Try.ntmps104
  go_wp2_with fail
  refine (HA.out _).mono ?_
  rintro e w1 ⟨⟨x, hx, rfl⟩, hC1, hK1⟩
  have hbd : -1 ≤ x ∧ x ≤ 21 := by simp at hx; omega
  replace hK1 := keep_alloc hK1
  clear HA hx
  go_wp2
  go_ret
  exact ⟨⟨_, rfl, hbd⟩, hC1, hK1⟩
set_option maxHeartbeats 1600000 in
theorem drawStay_c (v : Value) (w : World) (hv : BytesAt w v) :
    Calls Try.prog 73 #[v] w fun e w' => (∃ x : Int, e = .returned (.int .i64 x) ∧ -1 ≤ x ∧ x ≤ 21) ∧ Below w.heap.size w w' := by
  have HP := Lib.hid (fun W h => vehicles_c w.heap.size v 0 (by omega) W w (Nat.le_refl _) h hv)
  obtain ⟨a, n, c, rfl, hn⟩ := bytes_shape hv
  go_enter Try.func73, Try.ntmps73
  go_wp2_with fail
  refine (HP.out _ (by (repeat (first | with_reducible exact Below.refl _ _ | with_reducible assumption | with_reducible refine balloc ?_ _ | with_reducible refine bdrew ?_ | with_reducible refine below_drewN ?_ _ | with_reducible refine bset ?_ ?_ _ | with_reducible exact Nat.le_refl _ | with_reducible refine bsize ?_ | (dsimp only; refine Nat.le_trans ?_ (Nat.le_add_right _ _)) | with_reducible refine Nat.le_trans ?_ (Nat.le_add_right _ _) | (with_reducible refine bstep ?_ (by assumption))))) (cur_new _ _ _)).mono ?_
  rintro e w1 ⟨⟨x, rfl, hx⟩, hC1, hK1⟩
  have hb1 := hK1.1 w (Nat.le_refl _) (by (repeat (first | with_reducible exact Below.refl _ _ | with_reducible assumption | with_reducible refine balloc ?_ _ | with_reducible refine bdrew ?_ | with_reducible refine below_drewN ?_ _ | with_reducible refine bset ?_ ?_ _ | with_reducible exact Nat.le_refl _ | with_reducible refine bsize ?_ | (dsimp only; refine Nat.le_trans ?_ (Nat.le_add_right _ _)) | with_reducible refine Nat.le_trans ?_ (Nat.le_add_right _ _) | (with_reducible refine bstep ?_ (by assumption)))))
  go_wp2
  go_ret
  exact ⟨⟨_, rfl, hx⟩, hb1⟩
set_option maxHeartbeats 1600000 in
theorem drawBack_c (v : Value) (w : World) (hv : BytesAt w v) :
    Calls Try.prog 31 #[v] w fun e w' => (∃ x : Int, e = .returned (.int .i64 x) ∧ -1 ≤ x ∧ x ≤ 21) ∧ Below w.heap.size w w' := by
  have HP := Lib.hid (drawStay_c v w hv)
  go_enter Try.func31, Try.ntmps31
  go_wp2_with fail
  refine HP.out.mono ?_
  rintro e w1 ⟨⟨x, rfl, hx⟩, hb1⟩
  go_wp2
  go_ret
  exact ⟨⟨_, rfl, hx⟩, hb1⟩
set_option maxHeartbeats 1600000 in
theorem drawDepots_c (v : Value) (w : World) (hv : BytesAt w v) :
    Calls Try.prog 14 #[v] w fun e w' => (∃ x : Int, e = .returned (.int .i64 x) ∧ -1 ≤ x ∧ x ≤ 11) ∧ Below w.heap.size w w' := by
  have HA := Lib.hid (fun W h hC g hg hL => among_c w.heap.size v 0 (by omega) [0, 1, 2, 3, 5, 10, 11, -1] (by simp) (by simp) g W w (Nat.le_refl _) h hv hC hg hL)
  obtain ⟨a, n, c, rfl, hn⟩ := bytes_shape hv
  go_enter Try.func14, Try.ntmps14
  go_wp2_with fail
  refine (HA.out _ (by (repeat (first | with_reducible exact Below.refl _ _ | with_reducible assumption | with_reducible refine balloc ?_ _ | with_reducible refine bdrew ?_ | with_reducible refine below_drewN ?_ _ | with_reducible refine bset ?_ ?_ _ | with_reducible exact Nat.le_refl _ | with_reducible refine bsize ?_ | (dsimp only; refine Nat.le_trans ?_ (Nat.le_add_right _ _)) | with_reducible refine Nat.le_trans ?_ (Nat.le_add_right _ _) | (with_reducible refine bstep ?_ (by assumption))))) (cur_alloc (cur_new _ _ _) _) _ (by simp) (by intro i x h; rcases i with _ | _ | _ | _ | _ | _ | _ | _ | i <;> simp at h <;> subst h <;> simp [go_sem])).mono ?_
  rintro e w1 ⟨⟨x, hx, rfl⟩, hC1, hK1⟩
  have hbd : -1 ≤ x ∧ x ≤ 11 := by simp at hx; omega
  have hb1 := hK1.1 w (Nat.le_refl _) (by (repeat (first | with_reducible exact Below.refl _ _ | with_reducible assumption | with_reducible refine balloc ?_ _ | with_reducible refine bdrew ?_ | with_reducible refine below_drewN ?_ _ | with_reducible refine bset ?_ ?_ _ | with_reducible exact Nat.le_refl _ | with_reducible refine bsize ?_ | (dsimp only; refine Nat.le_trans ?_ (Nat.le_add_right _ _)) | with_reducible refine Nat.le_trans ?_ (Nat.le_add_right _ _) | (with_reducible refine bstep ?_ (by assumption)))))
  go_wp2
  go_ret
  exact ⟨⟨_, rfl, hbd⟩, hb1⟩
end Go.Proofs.Ytgpbkjakmbmccaa
