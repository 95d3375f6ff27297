/- The laws' draws: a number picked; big; DrawPlanOut. -/
import Derived.Test.YtgpbkjakmbmccaaCur
import Derived.Test.YtgpbkjakmbmccaaBase
namespace Go.Proofs.Ytgpbkjakmbmccaa
open Go.ChangeShapes Go.WideShapes Go.ChangeAt Go.RowKit Go.Joins
set_option maxRecDepth 100000
set_option linter.unusedVariables false
set_option linter.unusedSimpArgs false

set_option maxHeartbeats 1600000 in
theorem pick_c (b : Nat) (v : Value) (N : Nat) (hN : N ≤ 1000000) (n : Int) (n1 : 1 < n) (n2 : n ≤ 200) (w w0 : World) (hw0 : w0.heap.size ≤ b) (hb0 : Below w0.heap.size w0 w) (hv : BytesAt w0 v) (hC : CurAt b v N w) :
    Calls Try.prog 48 #[.pointer (some ⟨b, 0, none⟩), .int .i64 n] w fun e w' => (∃ x : Int, e = .returned (.int .i64 x) ∧ 0 ≤ x ∧ x < n) ∧ CurAt b v (N + 1) w' ∧ CurKeep b w w' := by
  have HN := Lib.hid (next_c b v N hN w w0 hw0 hb0 hv hC)
  clear hC hv hb0
  have n0 : n ≠ 0 := by omega
  go_enter Try.func48, Try.ntmps48
  go_wp2_with fail
  refine HN.out.mono ?_
  rintro e w1 ⟨⟨x, rfl, x0, x1⟩, hC1, hK1⟩
  go_wp2
  all_goals first | (exfalso; omega) | skip
  all_goals go_ret
  all_goals exact ⟨⟨_, rfl, by first | (rw [Int.tmod_eq_emod_of_nonneg x0]; exact Int.emod_nonneg _ n0) | exact Int.emod_nonneg _ n0, by first | (rw [Int.tmod_eq_emod_of_nonneg x0]; exact Int.emod_lt_of_pos _ (by omega)) | exact Int.emod_lt_of_pos _ (by omega)⟩, hC1, hK1⟩
theorem bytes_shape {w : World} {v : Value} (h : BytesAt w v) : ∃ (a : Option Addr) (n cap : Nat), v = .slice a n cap ∧ n ≤ 9223372036854775807 := by
  rcases h with h | ⟨a, n, cap, h, h1, h2, _⟩
  · exact ⟨none, 0, 0, h, by omega⟩
  · exact ⟨some a, n, cap, h, by omega⟩
set_option maxHeartbeats 1600000 in
theorem among_c (b : Nat) (v : Value) (N : Nat) (hN : N ≤ 1000000) (l : List Int) (n1 : 1 < l.length) (n2 : l.length ≤ 200) (g : Nat) (w w0 : World) (hw0 : w0.heap.size ≤ b) (hb0 : Below w0.heap.size w0 w) (hv : BytesAt w0 v) (hC : CurAt b v N w) (hg : g ≠ b) (hL : ∀ i x, l[i]? = some x → w.cell? ⟨g, i, none⟩ = some (.int .i64 x)) :
    Calls Try.prog 59 #[.pointer (some ⟨b, 0, none⟩), .slice (some ⟨g, 0, none⟩) l.length l.length] w fun e w' => (∃ x, x ∈ l ∧ e = .returned (.int .i64 x)) ∧ CurAt b v (N + 1) w' ∧ CurKeep b w w' := by
  have HP := Lib.hid (pick_c b v N hN l.length (by omega) (by omega) w w0 hw0 hb0 hv hC)
  have HL := Lib.hid hL
  clear hC hv hb0 hL
  go_enter Try.func59, Try.ntmps59
  go_wp2_with fail
  refine HP.out.mono ?_
  rintro e w1 ⟨⟨x, rfl, x0, x1⟩, hC1, hK1⟩
  obtain ⟨k, rfl⟩ : ∃ k : Nat, x = k := ⟨x.toNat, by omega⟩
  have hk : k < l.length := by omega
  obtain ⟨y, hy⟩ : ∃ y, l[k]? = some y := ⟨_, List.getElem?_eq_getElem hk⟩
  have c0 := HL.out k y hy
  have c1 : w1.cell? ⟨g, k, none⟩ = some (.int .i64 y) := (hK1.2 g k hg (cell_lt c0)).trans c0
  have hm : y ∈ l := List.mem_of_getElem? hy
  clear hy HL HP
  go_wp2
  go_ret
  exact ⟨⟨_, hm, rfl⟩, hC1, hK1⟩
theorem cur_new (w : World) (v : Value) (t : TypeId) : CurAt w.heap.size v 0 (w.alloc (.cells #[v, .int .i64 0, .int .u64 0] t)) :=
  ⟨0, 0, by simp, by simp, by simp, by simp, by simp, by simp, by omega⟩
set_option maxHeartbeats 1600000 in
theorem drawPlan_c (v : Value) (w : World) (hv : BytesAt w v) :
    Calls Try.prog 7 #[v] w fun e w' => (∃ x : Int, e = .returned (.int .i64 x)) ∧ Below w.heap.size w w' := by
  have HP := Lib.hid (fun W h => pick_c w.heap.size v 0 (by omega) 6 (by omega) (by omega) W w (Nat.le_refl _) h hv)
  obtain ⟨a, n, c, rfl, hn⟩ := bytes_shape hv
  go_enter Try.func7, Try.ntmps7
  go_wp2_with fail
  refine (HP.out _ (by (repeat (first | with_reducible exact Below.refl _ _ | with_reducible assumption | with_reducible refine balloc ?_ _ | with_reducible refine bdrew ?_ | with_reducible refine below_drewN ?_ _ | with_reducible refine bset ?_ ?_ _ | with_reducible exact Nat.le_refl _ | with_reducible refine bsize ?_ | (dsimp only; refine Nat.le_trans ?_ (Nat.le_add_right _ _)) | with_reducible refine Nat.le_trans ?_ (Nat.le_add_right _ _) | (with_reducible refine bstep ?_ (by assumption))))) (cur_new _ _ _)).mono ?_
  rintro e w1 ⟨⟨x, rfl, _, _⟩, hC1, hK1⟩
  have hb1 := hK1.1 w (Nat.le_refl _) (by (repeat (first | with_reducible exact Below.refl _ _ | with_reducible assumption | with_reducible refine balloc ?_ _ | with_reducible refine bdrew ?_ | with_reducible refine below_drewN ?_ _ | with_reducible refine bset ?_ ?_ _ | with_reducible exact Nat.le_refl _ | with_reducible refine bsize ?_ | (dsimp only; refine Nat.le_trans ?_ (Nat.le_add_right _ _)) | with_reducible refine Nat.le_trans ?_ (Nat.le_add_right _ _) | (with_reducible refine bstep ?_ (by assumption)))))
  go_wp2
  go_ret
  exact ⟨⟨_, rfl⟩, hb1⟩
set_option maxHeartbeats 1600000 in
theorem big_c (u v : Value) (w : World) (hu : BytesAt w u) (hv : BytesAt w v) :
    Calls Try.prog 6 #[u, v] w fun e w' => (∃ x : Bool, e = .returned (.bool x)) ∧ Below w.heap.size w w' := by
  obtain ⟨a, n, c, rfl, hn⟩ := bytes_shape hu
  obtain ⟨a2, n2, c2, rfl, hn2⟩ := bytes_shape hv
  clear hu hv
  go_enter Try.func6, Try.ntmps6
  go_wp2
  all_goals go_ret
  all_goals exact ⟨by first | exact ⟨_, rfl⟩ | exact Or.inl rfl | exact Or.inr rfl, by (repeat (first | with_reducible exact Below.refl _ _ | with_reducible assumption | with_reducible refine balloc ?_ _ | with_reducible refine bdrew ?_ | with_reducible refine below_drewN ?_ _ | with_reducible refine bset ?_ ?_ _ | with_reducible exact Nat.le_refl _ | with_reducible refine bsize ?_ | (dsimp only; refine Nat.le_trans ?_ (Nat.le_add_right _ _)) | with_reducible refine Nat.le_trans ?_ (Nat.le_add_right _ _) | (with_reducible refine bstep ?_ (by assumption))))⟩
end Go.Proofs.Ytgpbkjakmbmccaa
