/- Camels: LeftAt, FarthestWith: contracts. -/
import Derived.Test.YtgpbkjakmbmccaaCamL
import Derived.Deep.RegionHeld3
import Derived.Deep.DeepCutAuto
namespace Go.Proofs.Ytgpbkjakmbmccaa
open Go.ChangeShapes Go.WideShapes Go.ChangeAt Go.RowKit Go.Joins
set_option maxRecDepth 100000
set_option linter.unusedVariables false
set_option linter.unusedSimpArgs false

/-- The farthest place, told by the model and by the program. -/
theorem far_low {L E d n : Int} {t : Nat} (h : CamIn L E d n t) : lowB (paX L E d n t t) (paY L E d n t t) = lowB (wayWithX L E n d 0 1) (wayWithM L E n d 0 1) ∧ lowN (paX L E d n t t) (paY L E d n t t) = lowN (wayWithX L E n d 0 1) (wayWithM L E n d 0 1) ∧ lowD (paX L E d n t t) (paY L E d n t t) = lowD (wayWithX L E n d 0 1) (wayWithM L E n d 0 1) := by
  obtain ⟨l1, l2⟩ := h.ld
  have hdE := h.dE
  have hr := rd_is (paA L d n t t) (3465 * (d * E)) (by omega)
  have hY := (pa_bd h t (Nat.le_refl _)).2.2.1
  have e0 : dS (L * d) 0 = 0 := by
    have h0 := dS_whole (L * d) 0 (by omega) l1
    simp [dC] at h0
    exact h0
  have eA : paA L d n t t = dS (L * d) n := by
    have ht := h.ht.a
    unfold paA paU
    rw [if_neg (by omega), show (t : Int) - t = 0 by omega, Int.zero_mul, e0]; omega
  have eX : wayWithX L E n d 0 1 = dS (L * d) n := by
    unfold wayWithX
    rw [Int.mul_one, Int.one_mul, Int.mul_zero, e0]; omega
  have eM : wayWithM L E n d 0 1 = 3465 * (d * E) := by unfold wayWithM; rw [Int.mul_one]; ac_rfl
  rw [eX, eM, ← eA]
  have hs := lw_scale (gi (paA L d n t t) (3465 * (d * E))) (paX L E d n t t) (paY L E d n t t) (by have := hr.g1; omega) hY
  have f1 : gi (paA L d n t t) (3465 * (d * E)) * paX L E d n t t = paA L d n t t := hr.n1.symm
  have f2 : gi (paA L d n t t) (3465 * (d * E)) * paY L E d n t t = 3465 * (d * E) := hr.d1.symm
  rw [f1, f2] at hs
  exact ⟨hs.1.symm, hs.2.1.symm, hs.2.2.symm⟩
theorem pl01 : plB 0 1 = true := by decide
/-- The boxes of a camel and of goods, and the result's block. -/
structure Bx (w W : World) (L E n d : Int) : Prop where
  c1 : W.cell? ⟨w.heap.size, 0, none⟩ = some (.int .i64 L)
  c2 : W.cell? ⟨w.heap.size, 1, none⟩ = some (.int .i64 E)
  c3 : W.cell? ⟨w.heap.size + 1, 0, none⟩ = some (.int .i64 n)
  c4 : W.cell? ⟨w.heap.size + 1, 1, none⟩ = some (.int .i64 d)
  res : HasRes (w.heap.size + 1 + 1) W
  hs : w.heap.size + 1 + 1 < W.heap.size
  bel : Below w.heap.size w W
theorem Bx.later {w W W' : World} {L E n d : Int} (H : Bx w W L E n d) (hb : Below W.heap.size W W') : Bx w W' L E n d := by
  have hs := H.hs
  exact ⟨keepa hb (by omega) H.c1, keepa hb (by omega) H.c2, keepa hb (by omega) H.c3, keepa hb (by omega) H.c4, H.res.later hb, Nat.lt_of_lt_of_le hs hb.size, bstep H.bel hb⟩
theorem Bx.drew {w W : World} {L E n d : Int} (H : Bx w W L E n d) : Bx w W.drew L E n d := H.later (bdrew (Below.refl _ _))
theorem Bx.set {w W : World} {L E n d : Int} (H : Bx w W L E n d) (u v : Value) : Bx w ((W.setCell ⟨w.heap.size + 1 + 1, 0, none⟩ u).setCell ⟨w.heap.size + 1 + 1, 1, none⟩ v) L E n d := by
  obtain ⟨c1, c2, c3, c4, hr, hs, bel⟩ := H
  exact ⟨by simp [go_sem, c1], by simp [go_sem, c2], by simp [go_sem, c3], by simp [go_sem, c4], (hr.set 0 _ (by omega)).set 1 _ (by omega), by simpa using hs, bset (bset bel (by simp; omega) _) (by simp; omega) _⟩
theorem whole_b (k : Int) (w : World) :
    Calls Try.prog 52 #[.int .i64 k] w fun e w' => e = .returned (.agg #[.int .i64 k, .int .i64 1]) ∧ Below w.heap.size w w' := by
  go_enter Try.func52, Try.ntmps52
  go_wp2
  exact bodyPost_ret (v := .agg #[.int .i64 k, .int .i64 1]) (by simp [results, Try.results52, go_sem]) rfl ⟨rfl, by (repeat (first | with_reducible exact Below.refl _ _ | with_reducible assumption | with_reducible refine balloc ?_ _ | with_reducible refine bdrew ?_ | with_reducible refine below_drewN ?_ _ | with_reducible refine bset ?_ ?_ _ | with_reducible exact Nat.le_refl _ | with_reducible refine bsize ?_ | (dsimp only; refine Nat.le_trans ?_ (Nat.le_add_right _ _)) | with_reducible refine Nat.le_trans ?_ (Nat.le_add_right _ _) | (with_reducible refine bstep ?_ (by assumption))))⟩
set_option maxHeartbeats 1600000 in
theorem far_impl (L E n d : Int) (bn : -9223372036854775808 ≤ n ∧ n ≤ 9223372036854775807) (bd : -9223372036854775808 ≤ d ∧ d ≤ 9223372036854775807) (w : World) :
    Calls Try.prog 9 #[.agg #[.int .i64 L, .int .i64 E], .agg #[.int .i64 n, .int .i64 d]] w fun e w' => e = .returned (.tuple #[.agg #[.int .i64 (twoN (wayWithK L E n d 0 1) (wayWithX L E n d 0 1) (wayWithM L E n d 0 1)), .int .i64 (twoD (wayWithK L E n d 0 1) (wayWithX L E n d 0 1) (wayWithM L E n d 0 1))], .bool (twoB (wayWithK L E n d 0 1) (wayWithX L E n d 0 1) (wayWithM L E n d 0 1))]) ∧ Below w.heap.size w w' := by
  have HW := Lib.hid (fun W => wayWith_pub L E n d 0 1 bn bd (by omega) (by omega) W)
  generalize twoN (wayWithK L E n d 0 1) (wayWithX L E n d 0 1) (wayWithM L E n d 0 1) = X at *
  generalize twoD (wayWithK L E n d 0 1) (wayWithX L E n d 0 1) (wayWithM L E n d 0 1) = Y at *
  generalize twoB (wayWithK L E n d 0 1) (wayWithX L E n d 0 1) (wayWithM L E n d 0 1) = B at *
  go_enter Try.func9, Try.ntmps9
  go_upto_region 1 with fail
  change Code.wp _ _ _ _ (((w.alloc (.cells #[.int .i64 L, .int .i64 E] 30)).alloc (.cells #[.int .i64 n, .int .i64 d] 26)).alloc (.cells #[.int .i64 0, .int .i64 0] 26))
  have hB : Bx w (((w.alloc (.cells #[.int .i64 L, .int .i64 E] 30)).alloc (.cells #[.int .i64 n, .int .i64 d] 26)).alloc (.cells #[.int .i64 0, .int .i64 0] 26)) L E n d :=
    ⟨by simp [go_sem], by simp [go_sem], by simp [go_sem], by simp [go_sem], ⟨.int .i64 0, .int .i64 0, by simp [go_sem], by simp [go_sem], by simp [go_sem], by simp [go_sem], by simp⟩, by simp, by (repeat (first | with_reducible exact Below.refl _ _ | with_reducible assumption | with_reducible refine balloc ?_ _ | with_reducible refine bdrew ?_ | with_reducible refine below_drewN ?_ _ | with_reducible refine bset ?_ ?_ _ | with_reducible exact Nat.le_refl _ | with_reducible refine bsize ?_ | (dsimp only; refine Nat.le_trans ?_ (Nat.le_add_right _ _)) | with_reducible refine Nat.le_trans ?_ (Nat.le_add_right _ _) | (with_reducible refine bstep ?_ (by assumption))))⟩
  generalize (((w.alloc (.cells #[.int .i64 L, .int .i64 E] 30)).alloc (.cells #[.int .i64 n, .int .i64 d] 26)).alloc (.cells #[.int .i64 0, .int .i64 0] 26)) = V at *
  have hS := Lib.hid (fun (W : World) (h : Bx w W L E n d) => (⟨h.c1, h.c2, h.c3, h.c4⟩ : W.cell? ⟨w.heap.size, 0, none⟩ = some (.int .i64 L) ∧ W.cell? ⟨w.heap.size, 1, none⟩ = some (.int .i64 E) ∧ W.cell? ⟨w.heap.size + 1, 0, none⟩ = some (.int .i64 n) ∧ W.cell? ⟨w.heap.size + 1, 1, none⟩ = some (.int .i64 d)))
  go_region_held3 (fun W => W.cell? ⟨w.heap.size, 0, none⟩ = some (.int .i64 L) ∧ W.cell? ⟨w.heap.size, 1, none⟩ = some (.int .i64 E) ∧ W.cell? ⟨w.heap.size + 1, 0, none⟩ = some (.int .i64 n) ∧ W.cell? ⟨w.heap.size + 1, 1, none⟩ = some (.int .i64 d))
    ((refine hS.out _ ?_; first | with_reducible assumption | with_reducible exact Bx.drew (by with_reducible assumption) | with_reducible exact Bx.set (by with_reducible assumption) _ _ | with_reducible exact Bx.drew (Bx.set (by with_reducible assumption) _ _)))
    (first | (go_at_call 52; refine (whole_b _ _).mono ?_; rintro e w3 ⟨rfl, hb3⟩; (have hB3 := Bx.later hB (bstep (by (repeat (first | with_reducible exact Below.refl _ _ | with_reducible assumption | with_reducible refine balloc ?_ _ | with_reducible refine bdrew ?_ | with_reducible refine below_drewN ?_ _ | with_reducible refine bset ?_ ?_ _ | with_reducible exact Nat.le_refl _ | with_reducible refine bsize ?_ | (dsimp only; refine Nat.le_trans ?_ (Nat.le_add_right _ _)) | with_reducible refine Nat.le_trans ?_ (Nat.le_add_right _ _) | (with_reducible refine bstep ?_ (by assumption))))) hb3))) | (go_at_call 51; refine (HW.out _).mono ?_; rintro e w4 ⟨rfl, hb4⟩; (have hB4 := Bx.later hB3 (bstep (by (repeat (first | with_reducible exact Below.refl _ _ | with_reducible assumption | with_reducible refine balloc ?_ _ | with_reducible refine bdrew ?_ | with_reducible refine below_drewN ?_ _ | with_reducible refine bset ?_ ?_ _ | with_reducible exact Nat.le_refl _ | with_reducible refine bsize ?_ | (dsimp only; refine Nat.le_trans ?_ (Nat.le_add_right _ _)) | with_reducible refine Nat.le_trans ?_ (Nat.le_add_right _ _) | (with_reducible refine bstep ?_ (by assumption))))) hb4)); (obtain ⟨rx, ry, y1, y2, y3, y4, y5⟩ := hB4.res)))
  all_goals go_wp2
  all_goals refine bodyPost_ret (v := .tuple #[.agg #[.int .i64 X, .int .i64 Y], .bool B]) (by simp only [results, Try.results9]; go_simp) rfl ⟨rfl, ?_⟩
  all_goals exact (Bx.set hB4 _ _).bel
end Go.Proofs.Ytgpbkjakmbmccaa
