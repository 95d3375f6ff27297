/- Plans: a step added, on both sides. -/
import Derived.Test.YtjmmlknbdmngeaaPlanA
namespace Go.Proofs.Ytjmmlknbdmngeaa
open Go.ChangeShapes Go.WideShapes Go.ChangeAt Go.RowKit Go.Joins
set_option maxRecDepth 100000
set_option linter.unusedVariables false
set_option linter.unusedSimpArgs false


set_option maxHeartbeats 6400000 in
theorem add_impl (g : Nat) (v : Value) (l : List StepV) (n d k p q : Int) (hn : amB n d = true) (hp : amB p q = true) (hl : l.length ≤ 1000) (w : World) (hP : PlanSt g w v l n d) :
    Calls Try.prog 92 #[.pointer (some ⟨g, 0, none⟩), .int .i64 k, .agg #[.int .i64 p, .int .i64 q]] w fun e w' => e = .returned (.tuple #[]) ∧ ∃ v', PlanSt g w' v' (l ++ [⟨k, p, q⟩]) (tnN k n d p q) (tnD k n d p q) ∧ PlanKeep g w w' := by
  obtain ⟨i0, hi, hz0, hz1, hz2⟩ := info_parts zeroStep
  have b1 := (amB_iff _ _).1 hn
  have b2 := (amB_iff _ _).1 hp
  have hok : okk n d p q = true := by simp [okk, hn, hp]
  have HA : Hid (∀ W : World, Calls Try.prog 109 #[.agg #[.int .i64 n, .int .i64 d], .agg #[.int .i64 p, .int .i64 q]] W fun e w' => e = .returned (.tuple #[.agg #[.int .i64 (lowN (n * q + p * d) (d * q)), .int .i64 (lowD (n * q + p * d) (d * q))], .bool (lowB (n * q + p * d) (d * q))]) ∧ Below W.heap.size W w') := Lib.hid (fun W => by
    have h := plus_pub_impl n d p q (by omega) (by omega) (by omega) (by omega) W
    rw [hok, (two_yes _ _).1, (two_yes _ _).2.1, (two_yes _ _).2.2] at h
    exact h)
  have HL : Hid (∀ W : World, Calls Try.prog 110 #[.agg #[.int .i64 n, .int .i64 d], .agg #[.int .i64 p, .int .i64 q]] W fun e w' => e = .returned (.tuple #[.agg #[.int .i64 (lowN (n * q - p * d) (d * q)), .int .i64 (lowD (n * q - p * d) (d * q))], .bool (lowB (n * q - p * d) (d * q))]) ∧ Below W.heap.size W w') := Lib.hid (fun W => by
    have h := minus_pub_impl n d p q (by omega) (by omega) (by omega) (by omega) W
    rw [hok, (two_yes _ _).1, (two_yes _ _).2.1, (two_yes _ _).2.2] at h
    exact h)
  clear b1 b2 hok
  obtain ⟨c0, c1, c2, z0, z1, z2, own, sz⟩ := hP
  go_enter Try.func92, Try.ntmps92
  go_upto_region 1 with fail
  refine wp_region_noPanic ?_
  refine wp_region_U 12 (fun W => W.cell? ⟨g, 0, none⟩ = some v ∧ W.cell? ⟨w.heap.size, 0, none⟩ = some (.int .i64 p) ∧ W.cell? ⟨w.heap.size, 1, none⟩ = some (.int .i64 q)) (by kernel_rfl) (by refine ⟨?_, ?_, ?_⟩ <;> simp [go_sem, c0, sz]) (fun hHeld => ?_)
  (refine wpAnyU_take (i := 0) (v := ?_) (by rfl) (by decide) (by kernel_rfl) (by kernel_rfl) (by kernel_rfl) (by kernel_rfl) (by kernel_rfl) (fun _ _ _ h => h) (Or.inl ⟨by rfl, ?_⟩) (by assumption) ?_; rotate_left; (focus (intro w hSw; (try dsimp only at hSw); go_simp; (try with_reducible rfl))); (try simp only [Act.put, List.setIfInBounds_toArray, List.set_cons_zero, List.set_cons_succ]))
  (refine wpAnyU_take (i := 1) (v := ?_) (by rfl) (by decide) (by kernel_rfl) (by kernel_rfl) (by kernel_rfl) (by kernel_rfl) (by kernel_rfl) (fun _ _ _ h => h) (Or.inl ⟨by rfl, ?_⟩) (by assumption) ?_; rotate_left; (focus (intro w hSw; (try dsimp only at hSw); go_simp; (try with_reducible rfl))); (try simp only [Act.put, List.setIfInBounds_toArray, List.set_cons_zero, List.set_cons_succ]))
  (refine wpAnyU_take (i := 2) (v := ?_) (by rfl) (by decide) (by kernel_rfl) (by kernel_rfl) (by kernel_rfl) (by kernel_rfl) (by kernel_rfl) (fun _ _ _ h => h) (Or.inl ⟨by rfl, ?_⟩) (by assumption) ?_; rotate_left; (focus (intro w hSw; (try dsimp only at hSw); go_simp; (try with_reducible rfl))); (try simp only [Act.put, List.setIfInBounds_toArray, List.set_cons_zero, List.set_cons_succ]))
  (refine wpAnyU_take (i := 3) (v := ?_) (by rfl) (by decide) (by kernel_rfl) (by kernel_rfl) (by kernel_rfl) (by kernel_rfl) (by kernel_rfl) (fun _ _ _ h => h) (Or.inl ⟨by rfl, ?_⟩) (by assumption) ?_; rotate_left; (focus (intro w hSw; (try dsimp only at hSw); go_simp; (try with_reducible rfl))); (try simp only [Act.put, List.setIfInBounds_toArray, List.set_cons_zero, List.set_cons_succ]))
  (refine wpAnyU_take (i := 4) (v := ?_) (by rfl) (by decide) (by kernel_rfl) (by kernel_rfl) (by kernel_rfl) (by kernel_rfl) (by kernel_rfl) (fun _ _ _ h => h) (Or.inl ⟨by rfl, ?_⟩) (by assumption) ?_; rotate_left; (focus (intro w hSw; (try dsimp only at hSw); go_simp; (try with_reducible rfl))); (try simp only [Act.put, List.setIfInBounds_toArray, List.set_cons_zero, List.set_cons_succ]))
  (refine wpAnyU_take (i := 5) (v := ?_) (by rfl) (by decide) (by kernel_rfl) (by kernel_rfl) (by kernel_rfl) (by kernel_rfl) (by kernel_rfl) (fun _ _ _ h => h) (Or.inl ⟨by rfl, ?_⟩) (by assumption) ?_; rotate_left; (focus (intro w hSw; (try dsimp only at hSw); go_simp; (try with_reducible rfl))); (try simp only [Act.put, List.setIfInBounds_toArray, List.set_cons_zero, List.set_cons_succ]))
  (refine wpAnyU_take (i := 6) (v := ?_) (by rfl) (by decide) (by kernel_rfl) (by kernel_rfl) (by kernel_rfl) (by kernel_rfl) (by kernel_rfl) (fun _ _ _ h => h) (Or.inl ⟨by rfl, ?_⟩) (by assumption) ?_; rotate_left; (focus (intro w hSw; (try dsimp only at hSw); go_simp; (try with_reducible rfl))); (try simp only [Act.put, List.setIfInBounds_toArray, List.set_cons_zero, List.set_cons_succ]))
  (refine wpAnyU_take (i := 7) (v := ?_) (by rfl) (by decide) (by kernel_rfl) (by kernel_rfl) (by kernel_rfl) (by kernel_rfl) (by kernel_rfl) (fun _ _ _ h => h) (Or.inl ⟨by rfl, ?_⟩) (by assumption) ?_; rotate_left; (focus (intro w hSw; (try dsimp only at hSw); go_simp; (try with_reducible rfl))); (try simp only [Act.put, List.setIfInBounds_toArray, List.set_cons_zero, List.set_cons_succ]))
  (refine wpAnyU_one (i := 8) (by kernel_rfl) (by rfl) (fun K hK => ?_); go_simp; skip; (try go_wp2_with fail); refine hK.out _ _ (Or.inr (by exact ⟨by simp [go_sem, c0, sz], by simp [go_sem], by simp [go_sem]⟩)) (fun hHeld => ?_); replace hHeld := hHeld.resolve_left (by decide); clear hK; clear K; (try simp only [Act.put, List.setIfInBounds_toArray, List.set_cons_zero, List.set_cons_succ]))
  refine wpAnyU_one (i := 9) (by kernel_rfl) (by rfl) (fun K hK => ?_)
  refine step_append_own rfl (.tmp 10) (.tmp 14) 56 rfl (g + 1) 49 i0 (.agg #[.int .i64 0, .int .i64 0, .int .i64 0]) 3 24 Try.underlying56 hi hz0 hz1 hz2 rfl (by decide) v l.length _ ?kk6 ((own_drew (own.alloc _)).alloc _) ⟨w.heap.size + 1, 0, none⟩ 1 1 [.int .i64 k, .int .i64 p, .int .i64 q] ?kk7 rfl ?kk1 ?kk2 ?kk3 ?kk4 ?kk5 ?_
  case kk1 => first | exact cell_three_new _ _ _ _ _ | simp [go_sem]
  case kk2 => simp [Value.oneCell']
  case kk3 => unfold maxLen; omega
  case kk4 => omega
  case kk5 => first | (simp; done) | (simp; omega)
  case kk6 => simp [Act.eval, Act.put]
  case kk7 => simp [Act.eval, Act.put]
  intro v' w2 hown' hgrow
  have kp2 : PlanKeep g w w2 := ((((PlanKeep.refl g w).alloc sz _).drew).alloc sz _).grown hgrow own (by omega) sz
  have hBg : Below (g + 1) w w2 := ((((Below.refl (g + 1) w).alloc (by omega) _).drew).alloc (by simp; omega) _).grown hgrow (by simp; omega) (fun b e => own_block own e)
  have hne : some w.heap.size ≠ v.ownBlock := fun e => by have := own_lt own e.symm; omega
  have b0 := hgrow.cell (a := ⟨w.heap.size, 0, none⟩) (v := .int .i64 p) (by simp [go_sem]) hne
  have b1 := hgrow.cell (a := ⟨w.heap.size, 1, none⟩) (v := .int .i64 q) (by simp [go_sem]) hne
  have a0 := (hBg.cell (p := ⟨g, 0, none⟩) (by simp)).trans c0
  have a1 := (hBg.cell (p := ⟨g, 1, none⟩) (by simp)).trans c1
  have a2 := (hBg.cell (p := ⟨g, 2, none⟩) (by simp)).trans c2
  have f0 := (hBg.frozen (p := ⟨g, 0, none⟩) (by simp)).trans z0
  have f1 := (hBg.frozen (p := ⟨g, 1, none⟩) (by simp)).trans z1
  have f2 := (hBg.frozen (p := ⟨g, 2, none⟩) (by simp)).trans z2
  have hlen : (l ++ [(⟨k, p, q⟩ : StepV)]).length = l.length + 1 := by simp
  have own2 : w2.ownsRow (g + 1) 49 3 v' (l.length + 1) (cellsG fStep (l ++ [⟨k, p, q⟩])) := by rw [cellsG_snoc]; simpa [fStep] using hown'
  obtain ⟨av, cv, ev⟩ := owns_shape own2
  subst ev
  have sz2 : g < w2.heap.size := Nat.lt_of_lt_of_le sz kp2.size
  have bz2 : w.heap.size < w2.heap.size := Nat.lt_of_lt_of_le (by first | (simp; done) | (simp; omega)) hgrow.size
  have ne2 : (Value.slice av (l.length + 1) cv).ownBlock ≠ some g := fun e => by have := own_block own2 e; omega
  refine hK.out _ _ (Or.inr ⟨a0, b0, b1⟩) (fun hHeld => ?_)
  replace hHeld := hHeld.resolve_left (by decide)
  clear hK
  clear K
  (try simp only [Act.put, List.setIfInBounds_toArray, List.set_cons_zero, List.set_cons_succ])
  clear hown' hgrow own hBg hne c0 c1 c2 z0 z1 z2
  (refine wpAnyU_pure (i := 10) (v := ?_) (by rfl) (by decide) (by kernel_rfl) (by kernel_rfl) (by kernel_rfl) (fun _ _ _ h => h) (Or.inl ⟨by rfl, ?_⟩) (by first | exact Or.inr (by assumption) | exact Or.inl (by kernel_rfl)) ?_; rotate_left; (focus (intro w hSw; go_simp; (try with_reducible rfl))); (try simp only [Act.put, List.setIfInBounds_toArray, List.set_cons_zero, List.set_cons_succ]))
  (refine wpAnyU_take (i := 11) (v := ?_) (by rfl) (by decide) (by kernel_rfl) (by kernel_rfl) (by kernel_rfl) (by kernel_rfl) (by kernel_rfl) (fun _ _ _ h => h) (Or.inl ⟨by rfl, ?_⟩) (by assumption) ?_; rotate_left; (focus (intro w hSw; (try dsimp only at hSw); go_simp; (try with_reducible rfl))); (try simp only [Act.put, List.setIfInBounds_toArray, List.set_cons_zero, List.set_cons_succ]))
  refine wpAnyU_one (i := 12) (by kernel_rfl) (by rfl) (fun K hK => ?_)
  go_simp
  refine hK.out _ _ (Or.inl (by kernel_rfl)) (fun _ => ?_)
  refine wpAnyU_done (by kernel_rfl) ?_ _
  refine NoPanic.normal ?_
  clear hK
  clear K
  clear hHeld
  have gne : ¬ (w.heap.size = g) := by omega
  have gne2 : ¬ (g = w.heap.size) := by omega
  obtain ⟨w3, hw3⟩ : ∃ w3, w3 = w2.setCell ⟨g, 0, none⟩ (.slice av (l.length + 1) cv) := ⟨_, rfl⟩
  rw [← hw3]
  have d0 : w3.cell? ⟨g, 0, none⟩ = some (.slice av (l.length + 1) cv) := by rw [hw3]; simp [go_sem, a0]
  have d1 : w3.cell? ⟨g, 1, none⟩ = some (.int .i64 n) := by rw [hw3]; simp [go_sem, a1]
  have d2 : w3.cell? ⟨g, 2, none⟩ = some (.int .i64 d) := by rw [hw3]; simp [go_sem, a2]
  have t0 : w3.frozen? ⟨g, 0, none⟩ = false := by rw [hw3]; simp [go_sem, f0]
  have t1 : w3.frozen? ⟨g, 1, none⟩ = false := by rw [hw3]; simp [go_sem, f1]
  have t2 : w3.frozen? ⟨g, 2, none⟩ = false := by rw [hw3]; simp [go_sem, f2]
  have e0 : w3.cell? ⟨w.heap.size, 0, none⟩ = some (.int .i64 p) := by rw [hw3]; simp [go_sem, b0, gne, gne2]
  have e1 : w3.cell? ⟨w.heap.size, 1, none⟩ = some (.int .i64 q) := by rw [hw3]; simp [go_sem, b1, gne, gne2]
  have own3 : w3.ownsRow (g + 1) 49 3 (.slice av (l.length + 1) cv) (l.length + 1) (cellsG fStep (l ++ [⟨k, p, q⟩])) := by rw [hw3]; exact own_set (p := ⟨g, 0, none⟩) own2 ne2 _
  have kp3 : PlanKeep g w w3 := by rw [hw3]; exact kp2.set _
  have sz3 : g < w3.heap.size := by rw [hw3]; simpa using sz2
  have bz3 : w.heap.size < w3.heap.size := by rw [hw3]; simpa using bz2
  clear hw3 a0 a1 a2 f0 f1 f2 b0 b1 own2 kp2 sz2 bz2 ne2 gne gne2
  by_cases hk : k = 3
  · subst hk
    clear HL
    go_upto_region 3 with fail
    refine wp_region_noPanic ?_
    refine wp_region_U 12 (fun W => W.cell? ⟨g, 1, none⟩ = some (.int .i64 n) ∧ W.cell? ⟨g, 2, none⟩ = some (.int .i64 d) ∧ W.cell? ⟨w.heap.size, 0, none⟩ = some (.int .i64 p) ∧ W.cell? ⟨w.heap.size, 1, none⟩ = some (.int .i64 q)) (by kernel_rfl) (by simp [go_sem, d1, d2, e0, e1]) (fun hHeld => ?_)
    (refine wpAnyU_take (i := 0) (v := ?_) (by rfl) (by decide) (by kernel_rfl) (by kernel_rfl) (by kernel_rfl) (by kernel_rfl) (by kernel_rfl) (fun _ _ _ h => h) (Or.inl ⟨by rfl, ?_⟩) (by assumption) ?_; rotate_left; (focus (intro w hSw; (try dsimp only at hSw); go_simp; (try with_reducible rfl))); (try simp only [Act.put, List.setIfInBounds_toArray, List.set_cons_zero, List.set_cons_succ]))
    (refine wpAnyU_take (i := 1) (v := ?_) (by rfl) (by decide) (by kernel_rfl) (by kernel_rfl) (by kernel_rfl) (by kernel_rfl) (by kernel_rfl) (fun _ _ _ h => h) (Or.inl ⟨by rfl, ?_⟩) (by assumption) ?_; rotate_left; (focus (intro w hSw; (try dsimp only at hSw); go_simp; (try with_reducible rfl))); (try simp only [Act.put, List.setIfInBounds_toArray, List.set_cons_zero, List.set_cons_succ]))
    (refine wpAnyU_take (i := 2) (v := ?_) (by rfl) (by decide) (by kernel_rfl) (by kernel_rfl) (by kernel_rfl) (by kernel_rfl) (by kernel_rfl) (fun _ _ _ h => h) (Or.inl ⟨by rfl, ?_⟩) (by assumption) ?_; rotate_left; (focus (intro w hSw; (try dsimp only at hSw); go_simp; (try with_reducible rfl))); (try simp only [Act.put, List.setIfInBounds_toArray, List.set_cons_zero, List.set_cons_succ]))
    (refine wpAnyU_take (i := 3) (v := ?_) (by rfl) (by decide) (by kernel_rfl) (by kernel_rfl) (by kernel_rfl) (by kernel_rfl) (by kernel_rfl) (fun _ _ _ h => h) (Or.inl ⟨by rfl, ?_⟩) (by assumption) ?_; rotate_left; (focus (intro w hSw; (try dsimp only at hSw); go_simp; (try with_reducible rfl))); (try simp only [Act.put, List.setIfInBounds_toArray, List.set_cons_zero, List.set_cons_succ]))
    (refine wpAnyU_take (i := 4) (v := ?_) (by rfl) (by decide) (by kernel_rfl) (by kernel_rfl) (by kernel_rfl) (by kernel_rfl) (by kernel_rfl) (fun _ _ _ h => h) (Or.inl ⟨by rfl, ?_⟩) (by assumption) ?_; rotate_left; (focus (intro w hSw; (try dsimp only at hSw); go_simp; (try with_reducible rfl))); (try simp only [Act.put, List.setIfInBounds_toArray, List.set_cons_zero, List.set_cons_succ]))
    (refine wpAnyU_take (i := 5) (v := ?_) (by rfl) (by decide) (by kernel_rfl) (by kernel_rfl) (by kernel_rfl) (by kernel_rfl) (by kernel_rfl) (fun _ _ _ h => h) (Or.inl ⟨by rfl, ?_⟩) (by assumption) ?_; rotate_left; (focus (intro w hSw; (try dsimp only at hSw); go_simp; (try with_reducible rfl))); (try simp only [Act.put, List.setIfInBounds_toArray, List.set_cons_zero, List.set_cons_succ]))
    (refine wpAnyU_one (i := 6) (by kernel_rfl) (by rfl) (fun K hK => ?_); go_simp; (go_at_call 109; refine (HA.out _).mono ?_; rintro e w4 ⟨rfl, hb4⟩; (have k1 := keepa hb4 (by simpa using sz3) hHeld.1); (have k2 := keepa hb4 (by simpa using sz3) hHeld.2.1); (have k3 := keepa hb4 (by simpa using bz3) hHeld.2.2.1); (have k4 := keepa hb4 (by simpa using bz3) hHeld.2.2.2)); (try go_wp2_with fail); refine hK.out _ _ (Or.inr (by exact ⟨k1, k2, k3, k4⟩)) (fun hHeld => ?_); replace hHeld := hHeld.resolve_left (by decide); clear hK; clear K; (try simp only [Act.put, List.setIfInBounds_toArray, List.set_cons_zero, List.set_cons_succ]))
    (refine wpAnyU_take (i := 7) (v := ?_) (by rfl) (by decide) (by kernel_rfl) (by kernel_rfl) (by kernel_rfl) (by kernel_rfl) (by kernel_rfl) (fun _ _ _ h => h) (Or.inl ⟨by rfl, ?_⟩) (by assumption) ?_; rotate_left; (focus (intro w hSw; (try dsimp only at hSw); go_simp; (try with_reducible rfl))); (try simp only [Act.put, List.setIfInBounds_toArray, List.set_cons_zero, List.set_cons_succ]))
    (refine wpAnyU_take (i := 8) (v := ?_) (by rfl) (by decide) (by kernel_rfl) (by kernel_rfl) (by kernel_rfl) (by kernel_rfl) (by kernel_rfl) (fun _ _ _ h => h) (Or.inl ⟨by rfl, ?_⟩) (by assumption) ?_; rotate_left; (focus (intro w hSw; (try dsimp only at hSw); go_simp; (try with_reducible rfl))); (try simp only [Act.put, List.setIfInBounds_toArray, List.set_cons_zero, List.set_cons_succ]))
    (refine wpAnyU_pure (i := 9) (v := ?_) (by rfl) (by decide) (by kernel_rfl) (by kernel_rfl) (by kernel_rfl) (fun _ _ _ h => h) (Or.inl ⟨by rfl, ?_⟩) (by first | exact Or.inr (by assumption) | exact Or.inl (by kernel_rfl)) ?_; rotate_left; (focus (intro w hSw; go_simp; (try with_reducible rfl))); (try simp only [Act.put, List.setIfInBounds_toArray, List.set_cons_zero, List.set_cons_succ]))
    (refine wpAnyU_pure (i := 10) (v := ?_) (by rfl) (by decide) (by kernel_rfl) (by kernel_rfl) (by kernel_rfl) (fun _ _ _ h => h) (Or.inl ⟨by rfl, ?_⟩) (by first | exact Or.inr (by assumption) | exact Or.inl (by kernel_rfl)) ?_; rotate_left; (focus (intro w hSw; go_simp; (try with_reducible rfl))); (try simp only [Act.put, List.setIfInBounds_toArray, List.set_cons_zero, List.set_cons_succ]))
    (refine wpAnyU_take (i := 11) (v := ?_) (by rfl) (by decide) (by kernel_rfl) (by kernel_rfl) (by kernel_rfl) (by kernel_rfl) (by kernel_rfl) (fun _ _ _ h => h) (Or.inl ⟨by rfl, ?_⟩) (by assumption) ?_; rotate_left; (focus (intro w hSw; (try dsimp only at hSw); go_simp; (try with_reducible rfl))); (try simp only [Act.put, List.setIfInBounds_toArray, List.set_cons_zero, List.set_cons_succ]))
    have hb5 : Below w3.heap.size w3 w4 := by (repeat (first | with_reducible exact Below.refl _ _ | with_reducible assumption | with_reducible refine balloc ?_ _ | with_reducible refine bdrew ?_ | with_reducible refine below_drewN ?_ _ | with_reducible refine bset ?_ ?_ _ | with_reducible exact Nat.le_refl _ | with_reducible refine bsize ?_ | (dsimp only; refine Nat.le_trans ?_ (Nat.le_add_right _ _)) | with_reducible refine Nat.le_trans ?_ (Nat.le_add_right _ _) | (with_reducible refine bstep ?_ (by assumption))))
    have kp := kp3.below hb5 sz3
    have y0 := keepa hb5 sz3 d0
    have y1 := keepa hb5 sz3 d1
    have y2 := keepa hb5 sz3 d2
    have x0 := keepf hb5 sz3 t0
    have x1 := keepf hb5 sz3 t1
    have x2 := keepf hb5 sz3 t2
    have own4 := ownsRow_below own3 hb5
    have sz4 : g < w4.heap.size := Nat.lt_of_lt_of_le sz3 hb5.size
    have ne4 := own_ne own4 (b := g) (by omega)
    clear hb4 hb5 k1 k2 k3 k4 d0 d1 d2 t0 t1 t2 e0 e1 own3 kp3
    refine wpAnyU_one (i := 12) (by kernel_rfl) (by rfl) (fun K hK => ?_)
    go_simp
    refine hK.out _ _ (Or.inl (by kernel_rfl)) (fun _ => ?_)
    refine wpAnyU_done (by kernel_rfl) ?_ _
    refine NoPanic.normal ?_
    go_wp2
    go_end0
    refine ⟨rfl, _, ⟨?_, ?_, ?_, ?_, ?_, ?_, (by rw [hlen]; exact own_set (p := ⟨g, 2, none⟩) (own_set (p := ⟨g, 1, none⟩) own4 ne4 _) ne4 _), by simpa using sz4⟩, (kp.set _).set _⟩
    all_goals simp [go_sem, y0, y1, y2, x0, x1, x2, sz4, tnN, tnD]
  · have hk3 : (k == 3) = false := by simpa using hk
    clear HA
    go_upto_region 4 with fail
    refine wp_region_noPanic ?_
    refine wp_region_U 12 (fun W => W.cell? ⟨g, 1, none⟩ = some (.int .i64 n) ∧ W.cell? ⟨g, 2, none⟩ = some (.int .i64 d) ∧ W.cell? ⟨w.heap.size, 0, none⟩ = some (.int .i64 p) ∧ W.cell? ⟨w.heap.size, 1, none⟩ = some (.int .i64 q)) (by kernel_rfl) (by simp [go_sem, d1, d2, e0, e1]) (fun hHeld => ?_)
    (refine wpAnyU_take (i := 0) (v := ?_) (by rfl) (by decide) (by kernel_rfl) (by kernel_rfl) (by kernel_rfl) (by kernel_rfl) (by kernel_rfl) (fun _ _ _ h => h) (Or.inl ⟨by rfl, ?_⟩) (by assumption) ?_; rotate_left; (focus (intro w hSw; (try dsimp only at hSw); go_simp; (try with_reducible rfl))); (try simp only [Act.put, List.setIfInBounds_toArray, List.set_cons_zero, List.set_cons_succ]))
    (refine wpAnyU_take (i := 1) (v := ?_) (by rfl) (by decide) (by kernel_rfl) (by kernel_rfl) (by kernel_rfl) (by kernel_rfl) (by kernel_rfl) (fun _ _ _ h => h) (Or.inl ⟨by rfl, ?_⟩) (by assumption) ?_; rotate_left; (focus (intro w hSw; (try dsimp only at hSw); go_simp; (try with_reducible rfl))); (try simp only [Act.put, List.setIfInBounds_toArray, List.set_cons_zero, List.set_cons_succ]))
    (refine wpAnyU_take (i := 2) (v := ?_) (by rfl) (by decide) (by kernel_rfl) (by kernel_rfl) (by kernel_rfl) (by kernel_rfl) (by kernel_rfl) (fun _ _ _ h => h) (Or.inl ⟨by rfl, ?_⟩) (by assumption) ?_; rotate_left; (focus (intro w hSw; (try dsimp only at hSw); go_simp; (try with_reducible rfl))); (try simp only [Act.put, List.setIfInBounds_toArray, List.set_cons_zero, List.set_cons_succ]))
    (refine wpAnyU_take (i := 3) (v := ?_) (by rfl) (by decide) (by kernel_rfl) (by kernel_rfl) (by kernel_rfl) (by kernel_rfl) (by kernel_rfl) (fun _ _ _ h => h) (Or.inl ⟨by rfl, ?_⟩) (by assumption) ?_; rotate_left; (focus (intro w hSw; (try dsimp only at hSw); go_simp; (try with_reducible rfl))); (try simp only [Act.put, List.setIfInBounds_toArray, List.set_cons_zero, List.set_cons_succ]))
    (refine wpAnyU_take (i := 4) (v := ?_) (by rfl) (by decide) (by kernel_rfl) (by kernel_rfl) (by kernel_rfl) (by kernel_rfl) (by kernel_rfl) (fun _ _ _ h => h) (Or.inl ⟨by rfl, ?_⟩) (by assumption) ?_; rotate_left; (focus (intro w hSw; (try dsimp only at hSw); go_simp; (try with_reducible rfl))); (try simp only [Act.put, List.setIfInBounds_toArray, List.set_cons_zero, List.set_cons_succ]))
    (refine wpAnyU_take (i := 5) (v := ?_) (by rfl) (by decide) (by kernel_rfl) (by kernel_rfl) (by kernel_rfl) (by kernel_rfl) (by kernel_rfl) (fun _ _ _ h => h) (Or.inl ⟨by rfl, ?_⟩) (by assumption) ?_; rotate_left; (focus (intro w hSw; (try dsimp only at hSw); go_simp; (try with_reducible rfl))); (try simp only [Act.put, List.setIfInBounds_toArray, List.set_cons_zero, List.set_cons_succ]))
    (refine wpAnyU_one (i := 6) (by kernel_rfl) (by rfl) (fun K hK => ?_); go_simp; (go_at_call 110; refine (HL.out _).mono ?_; rintro e w4 ⟨rfl, hb4⟩; (have k1 := keepa hb4 (by simpa using sz3) hHeld.1); (have k2 := keepa hb4 (by simpa using sz3) hHeld.2.1); (have k3 := keepa hb4 (by simpa using bz3) hHeld.2.2.1); (have k4 := keepa hb4 (by simpa using bz3) hHeld.2.2.2)); (try go_wp2_with fail); refine hK.out _ _ (Or.inr (by exact ⟨k1, k2, k3, k4⟩)) (fun hHeld => ?_); replace hHeld := hHeld.resolve_left (by decide); clear hK; clear K; (try simp only [Act.put, List.setIfInBounds_toArray, List.set_cons_zero, List.set_cons_succ]))
    (refine wpAnyU_take (i := 7) (v := ?_) (by rfl) (by decide) (by kernel_rfl) (by kernel_rfl) (by kernel_rfl) (by kernel_rfl) (by kernel_rfl) (fun _ _ _ h => h) (Or.inl ⟨by rfl, ?_⟩) (by assumption) ?_; rotate_left; (focus (intro w hSw; (try dsimp only at hSw); go_simp; (try with_reducible rfl))); (try simp only [Act.put, List.setIfInBounds_toArray, List.set_cons_zero, List.set_cons_succ]))
    (refine wpAnyU_take (i := 8) (v := ?_) (by rfl) (by decide) (by kernel_rfl) (by kernel_rfl) (by kernel_rfl) (by kernel_rfl) (by kernel_rfl) (fun _ _ _ h => h) (Or.inl ⟨by rfl, ?_⟩) (by assumption) ?_; rotate_left; (focus (intro w hSw; (try dsimp only at hSw); go_simp; (try with_reducible rfl))); (try simp only [Act.put, List.setIfInBounds_toArray, List.set_cons_zero, List.set_cons_succ]))
    (refine wpAnyU_pure (i := 9) (v := ?_) (by rfl) (by decide) (by kernel_rfl) (by kernel_rfl) (by kernel_rfl) (fun _ _ _ h => h) (Or.inl ⟨by rfl, ?_⟩) (by first | exact Or.inr (by assumption) | exact Or.inl (by kernel_rfl)) ?_; rotate_left; (focus (intro w hSw; go_simp; (try with_reducible rfl))); (try simp only [Act.put, List.setIfInBounds_toArray, List.set_cons_zero, List.set_cons_succ]))
    (refine wpAnyU_pure (i := 10) (v := ?_) (by rfl) (by decide) (by kernel_rfl) (by kernel_rfl) (by kernel_rfl) (fun _ _ _ h => h) (Or.inl ⟨by rfl, ?_⟩) (by first | exact Or.inr (by assumption) | exact Or.inl (by kernel_rfl)) ?_; rotate_left; (focus (intro w hSw; go_simp; (try with_reducible rfl))); (try simp only [Act.put, List.setIfInBounds_toArray, List.set_cons_zero, List.set_cons_succ]))
    (refine wpAnyU_take (i := 11) (v := ?_) (by rfl) (by decide) (by kernel_rfl) (by kernel_rfl) (by kernel_rfl) (by kernel_rfl) (by kernel_rfl) (fun _ _ _ h => h) (Or.inl ⟨by rfl, ?_⟩) (by assumption) ?_; rotate_left; (focus (intro w hSw; (try dsimp only at hSw); go_simp; (try with_reducible rfl))); (try simp only [Act.put, List.setIfInBounds_toArray, List.set_cons_zero, List.set_cons_succ]))
    have hb5 : Below w3.heap.size w3 w4 := by (repeat (first | with_reducible exact Below.refl _ _ | with_reducible assumption | with_reducible refine balloc ?_ _ | with_reducible refine bdrew ?_ | with_reducible refine below_drewN ?_ _ | with_reducible refine bset ?_ ?_ _ | with_reducible exact Nat.le_refl _ | with_reducible refine bsize ?_ | (dsimp only; refine Nat.le_trans ?_ (Nat.le_add_right _ _)) | with_reducible refine Nat.le_trans ?_ (Nat.le_add_right _ _) | (with_reducible refine bstep ?_ (by assumption))))
    have kp := kp3.below hb5 sz3
    have y0 := keepa hb5 sz3 d0
    have y1 := keepa hb5 sz3 d1
    have y2 := keepa hb5 sz3 d2
    have x0 := keepf hb5 sz3 t0
    have x1 := keepf hb5 sz3 t1
    have x2 := keepf hb5 sz3 t2
    have own4 := ownsRow_below own3 hb5
    have sz4 : g < w4.heap.size := Nat.lt_of_lt_of_le sz3 hb5.size
    have ne4 := own_ne own4 (b := g) (by omega)
    clear hb4 hb5 k1 k2 k3 k4 d0 d1 d2 t0 t1 t2 e0 e1 own3 kp3
    refine wpAnyU_one (i := 12) (by kernel_rfl) (by rfl) (fun K hK => ?_)
    go_simp
    refine hK.out _ _ (Or.inl (by kernel_rfl)) (fun _ => ?_)
    refine wpAnyU_done (by kernel_rfl) ?_ _
    refine NoPanic.normal ?_
    go_wp2
    go_end0
    refine ⟨rfl, _, ⟨?_, ?_, ?_, ?_, ?_, ?_, (by rw [hlen]; exact own_set (p := ⟨g, 2, none⟩) (own_set (p := ⟨g, 1, none⟩) own4 ne4 _) ne4 _), by simpa using sz4⟩, (kp.set _).set _⟩
    all_goals simp [go_sem, y0, y1, y2, x0, x1, x2, sz4, tnN, tnD, hk]

set_option maxHeartbeats 6400000 in
theorem add_spec (g : Nat) (v : Value) (l : List StepV) (n d k p q : Int) (hn : amB n d = true) (hp : amB p q = true) (hp0 : p ≠ 0) (hl : l.length ≤ 1000) (w : World) (hP : PlanSt g w v l n d) :
    Calls Try.prog 85 #[.pointer (some ⟨g, 0, none⟩), .int .i64 k, .agg #[.int .i64 p, .int .i64 q]] w fun e w' => e = .returned (.tuple #[]) ∧ ∃ v', PlanSt g w' v' (l ++ [⟨k, p, q⟩]) (tnN k n d p q) (tnD k n d p q) ∧ PlanKeep g w w' := by
  obtain ⟨i0, hi, hz0, hz1, hz2⟩ := info_parts zeroStep
  have HA : Hid (∀ W : World, Calls Try.prog 81 #[.agg #[.int .i64 n, .int .i64 d], .agg #[.int .i64 p, .int .i64 q]] W fun e w' => e = .returned (.tuple #[.agg #[.int .i64 (lowN (n * q + p * d) (d * q)), .int .i64 (lowD (n * q + p * d) (d * q))], .bool (lowB (n * q + p * d) (d * q))]) ∧ Below W.heap.size W w') := Lib.hid (fun W => amAdd_spec n d p q (am_of _ _ hn) (am_of _ _ hp) W)
  have HL : Hid (∀ W : World, Calls Try.prog 105 #[.agg #[.int .i64 n, .int .i64 d], .agg #[.int .i64 p, .int .i64 q]] W fun e w' => e = .returned (.tuple #[.agg #[.int .i64 (lowN (n * q - p * d) (d * q)), .int .i64 (lowD (n * q - p * d) (d * q))], .bool (lowB (n * q - p * d) (d * q))]) ∧ Below W.heap.size W w') := Lib.hid (fun W => amLess_spec n d p q (am_of _ _ hn) (am_of _ _ hp) W)
  have hq0 : (p == 0) = false := by simpa using hp0
  obtain ⟨c0, c1, c2, z0, z1, z2, own, sz⟩ := hP
  go_enter Try.func85, Try.ntmps85
  go_upto_region 2 with fail
  refine wp_region_noPanic ?_
  refine wp_region_U 12 (fun W => W.cell? ⟨g, 0, none⟩ = some v ∧ W.cell? ⟨w.heap.size, 0, none⟩ = some (.int .i64 p) ∧ W.cell? ⟨w.heap.size, 1, none⟩ = some (.int .i64 q)) (by kernel_rfl) (by refine ⟨?_, ?_, ?_⟩ <;> simp [go_sem, c0, sz]) (fun hHeld => ?_)
  (refine wpAnyU_take (i := 0) (v := ?_) (by rfl) (by decide) (by kernel_rfl) (by kernel_rfl) (by kernel_rfl) (by kernel_rfl) (by kernel_rfl) (fun _ _ _ h => h) (Or.inl ⟨by rfl, ?_⟩) (by assumption) ?_; rotate_left; (focus (intro w hSw; (try dsimp only at hSw); go_simp; (try with_reducible rfl))); (try simp only [Act.put, List.setIfInBounds_toArray, List.set_cons_zero, List.set_cons_succ]))
  (refine wpAnyU_take (i := 1) (v := ?_) (by rfl) (by decide) (by kernel_rfl) (by kernel_rfl) (by kernel_rfl) (by kernel_rfl) (by kernel_rfl) (fun _ _ _ h => h) (Or.inl ⟨by rfl, ?_⟩) (by assumption) ?_; rotate_left; (focus (intro w hSw; (try dsimp only at hSw); go_simp; (try with_reducible rfl))); (try simp only [Act.put, List.setIfInBounds_toArray, List.set_cons_zero, List.set_cons_succ]))
  (refine wpAnyU_take (i := 2) (v := ?_) (by rfl) (by decide) (by kernel_rfl) (by kernel_rfl) (by kernel_rfl) (by kernel_rfl) (by kernel_rfl) (fun _ _ _ h => h) (Or.inl ⟨by rfl, ?_⟩) (by assumption) ?_; rotate_left; (focus (intro w hSw; (try dsimp only at hSw); go_simp; (try with_reducible rfl))); (try simp only [Act.put, List.setIfInBounds_toArray, List.set_cons_zero, List.set_cons_succ]))
  (refine wpAnyU_take (i := 3) (v := ?_) (by rfl) (by decide) (by kernel_rfl) (by kernel_rfl) (by kernel_rfl) (by kernel_rfl) (by kernel_rfl) (fun _ _ _ h => h) (Or.inl ⟨by rfl, ?_⟩) (by assumption) ?_; rotate_left; (focus (intro w hSw; (try dsimp only at hSw); go_simp; (try with_reducible rfl))); (try simp only [Act.put, List.setIfInBounds_toArray, List.set_cons_zero, List.set_cons_succ]))
  (refine wpAnyU_take (i := 4) (v := ?_) (by rfl) (by decide) (by kernel_rfl) (by kernel_rfl) (by kernel_rfl) (by kernel_rfl) (by kernel_rfl) (fun _ _ _ h => h) (Or.inl ⟨by rfl, ?_⟩) (by assumption) ?_; rotate_left; (focus (intro w hSw; (try dsimp only at hSw); go_simp; (try with_reducible rfl))); (try simp only [Act.put, List.setIfInBounds_toArray, List.set_cons_zero, List.set_cons_succ]))
  (refine wpAnyU_take (i := 5) (v := ?_) (by rfl) (by decide) (by kernel_rfl) (by kernel_rfl) (by kernel_rfl) (by kernel_rfl) (by kernel_rfl) (fun _ _ _ h => h) (Or.inl ⟨by rfl, ?_⟩) (by assumption) ?_; rotate_left; (focus (intro w hSw; (try dsimp only at hSw); go_simp; (try with_reducible rfl))); (try simp only [Act.put, List.setIfInBounds_toArray, List.set_cons_zero, List.set_cons_succ]))
  (refine wpAnyU_take (i := 6) (v := ?_) (by rfl) (by decide) (by kernel_rfl) (by kernel_rfl) (by kernel_rfl) (by kernel_rfl) (by kernel_rfl) (fun _ _ _ h => h) (Or.inl ⟨by rfl, ?_⟩) (by assumption) ?_; rotate_left; (focus (intro w hSw; (try dsimp only at hSw); go_simp; (try with_reducible rfl))); (try simp only [Act.put, List.setIfInBounds_toArray, List.set_cons_zero, List.set_cons_succ]))
  (refine wpAnyU_take (i := 7) (v := ?_) (by rfl) (by decide) (by kernel_rfl) (by kernel_rfl) (by kernel_rfl) (by kernel_rfl) (by kernel_rfl) (fun _ _ _ h => h) (Or.inl ⟨by rfl, ?_⟩) (by assumption) ?_; rotate_left; (focus (intro w hSw; (try dsimp only at hSw); go_simp; (try with_reducible rfl))); (try simp only [Act.put, List.setIfInBounds_toArray, List.set_cons_zero, List.set_cons_succ]))
  (refine wpAnyU_one (i := 8) (by kernel_rfl) (by rfl) (fun K hK => ?_); go_simp; skip; (try go_wp2_with fail); refine hK.out _ _ (Or.inr (by exact ⟨by simp [go_sem, c0, sz], by simp [go_sem], by simp [go_sem]⟩)) (fun hHeld => ?_); replace hHeld := hHeld.resolve_left (by decide); clear hK; clear K; (try simp only [Act.put, List.setIfInBounds_toArray, List.set_cons_zero, List.set_cons_succ]))
  refine wpAnyU_one (i := 9) (by kernel_rfl) (by rfl) (fun K hK => ?_)
  refine step_append_own rfl (.tmp 13) (.tmp 17) 56 rfl (g + 1) 49 i0 (.agg #[.int .i64 0, .int .i64 0, .int .i64 0]) 3 24 Try.underlying56 hi hz0 hz1 hz2 rfl (by decide) v l.length _ ?kk6 ((own_drew (own.alloc _)).alloc _) ⟨w.heap.size + 1, 0, none⟩ 1 1 [.int .i64 k, .int .i64 p, .int .i64 q] ?kk7 rfl ?kk1 ?kk2 ?kk3 ?kk4 ?kk5 ?_
  case kk1 => first | exact cell_three_new _ _ _ _ _ | simp [go_sem]
  case kk2 => simp [Value.oneCell']
  case kk3 => unfold maxLen; omega
  case kk4 => omega
  case kk5 => first | (simp; done) | (simp; omega)
  case kk6 => simp [Act.eval, Act.put]
  case kk7 => simp [Act.eval, Act.put]
  intro v' w2 hown' hgrow
  have kp2 : PlanKeep g w w2 := ((((PlanKeep.refl g w).alloc sz _).drew).alloc sz _).grown hgrow own (by omega) sz
  have hBg : Below (g + 1) w w2 := ((((Below.refl (g + 1) w).alloc (by omega) _).drew).alloc (by simp; omega) _).grown hgrow (by simp; omega) (fun b e => own_block own e)
  have hne : some w.heap.size ≠ v.ownBlock := fun e => by have := own_lt own e.symm; omega
  have b0 := hgrow.cell (a := ⟨w.heap.size, 0, none⟩) (v := .int .i64 p) (by simp [go_sem]) hne
  have b1 := hgrow.cell (a := ⟨w.heap.size, 1, none⟩) (v := .int .i64 q) (by simp [go_sem]) hne
  have a0 := (hBg.cell (p := ⟨g, 0, none⟩) (by simp)).trans c0
  have a1 := (hBg.cell (p := ⟨g, 1, none⟩) (by simp)).trans c1
  have a2 := (hBg.cell (p := ⟨g, 2, none⟩) (by simp)).trans c2
  have f0 := (hBg.frozen (p := ⟨g, 0, none⟩) (by simp)).trans z0
  have f1 := (hBg.frozen (p := ⟨g, 1, none⟩) (by simp)).trans z1
  have f2 := (hBg.frozen (p := ⟨g, 2, none⟩) (by simp)).trans z2
  have hlen : (l ++ [(⟨k, p, q⟩ : StepV)]).length = l.length + 1 := by simp
  have own2 : w2.ownsRow (g + 1) 49 3 v' (l.length + 1) (cellsG fStep (l ++ [⟨k, p, q⟩])) := by rw [cellsG_snoc]; simpa [fStep] using hown'
  obtain ⟨av, cv, ev⟩ := owns_shape own2
  subst ev
  have sz2 : g < w2.heap.size := Nat.lt_of_lt_of_le sz kp2.size
  have bz2 : w.heap.size < w2.heap.size := Nat.lt_of_lt_of_le (by first | (simp; done) | (simp; omega)) hgrow.size
  have ne2 : (Value.slice av (l.length + 1) cv).ownBlock ≠ some g := fun e => by have := own_block own2 e; omega
  refine hK.out _ _ (Or.inr ⟨a0, b0, b1⟩) (fun hHeld => ?_)
  replace hHeld := hHeld.resolve_left (by decide)
  clear hK
  clear K
  (try simp only [Act.put, List.setIfInBounds_toArray, List.set_cons_zero, List.set_cons_succ])
  clear hown' hgrow own hBg hne c0 c1 c2 z0 z1 z2
  (refine wpAnyU_pure (i := 10) (v := ?_) (by rfl) (by decide) (by kernel_rfl) (by kernel_rfl) (by kernel_rfl) (fun _ _ _ h => h) (Or.inl ⟨by rfl, ?_⟩) (by first | exact Or.inr (by assumption) | exact Or.inl (by kernel_rfl)) ?_; rotate_left; (focus (intro w hSw; go_simp; (try with_reducible rfl))); (try simp only [Act.put, List.setIfInBounds_toArray, List.set_cons_zero, List.set_cons_succ]))
  (refine wpAnyU_take (i := 11) (v := ?_) (by rfl) (by decide) (by kernel_rfl) (by kernel_rfl) (by kernel_rfl) (by kernel_rfl) (by kernel_rfl) (fun _ _ _ h => h) (Or.inl ⟨by rfl, ?_⟩) (by assumption) ?_; rotate_left; (focus (intro w hSw; (try dsimp only at hSw); go_simp; (try with_reducible rfl))); (try simp only [Act.put, List.setIfInBounds_toArray, List.set_cons_zero, List.set_cons_succ]))
  refine wpAnyU_one (i := 12) (by kernel_rfl) (by rfl) (fun K hK => ?_)
  go_simp
  refine hK.out _ _ (Or.inl (by kernel_rfl)) (fun _ => ?_)
  refine wpAnyU_done (by kernel_rfl) ?_ _
  refine NoPanic.normal ?_
  clear hK
  clear K
  clear hHeld
  have gne : ¬ (w.heap.size = g) := by omega
  have gne2 : ¬ (g = w.heap.size) := by omega
  obtain ⟨w3, hw3⟩ : ∃ w3, w3 = w2.setCell ⟨g, 0, none⟩ (.slice av (l.length + 1) cv) := ⟨_, rfl⟩
  rw [← hw3]
  have d0 : w3.cell? ⟨g, 0, none⟩ = some (.slice av (l.length + 1) cv) := by rw [hw3]; simp [go_sem, a0]
  have d1 : w3.cell? ⟨g, 1, none⟩ = some (.int .i64 n) := by rw [hw3]; simp [go_sem, a1]
  have d2 : w3.cell? ⟨g, 2, none⟩ = some (.int .i64 d) := by rw [hw3]; simp [go_sem, a2]
  have t0 : w3.frozen? ⟨g, 0, none⟩ = false := by rw [hw3]; simp [go_sem, f0]
  have t1 : w3.frozen? ⟨g, 1, none⟩ = false := by rw [hw3]; simp [go_sem, f1]
  have t2 : w3.frozen? ⟨g, 2, none⟩ = false := by rw [hw3]; simp [go_sem, f2]
  have e0 : w3.cell? ⟨w.heap.size, 0, none⟩ = some (.int .i64 p) := by rw [hw3]; simp [go_sem, b0, gne, gne2]
  have e1 : w3.cell? ⟨w.heap.size, 1, none⟩ = some (.int .i64 q) := by rw [hw3]; simp [go_sem, b1, gne, gne2]
  have own3 : w3.ownsRow (g + 1) 49 3 (.slice av (l.length + 1) cv) (l.length + 1) (cellsG fStep (l ++ [⟨k, p, q⟩])) := by rw [hw3]; exact own_set (p := ⟨g, 0, none⟩) own2 ne2 _
  have kp3 : PlanKeep g w w3 := by rw [hw3]; exact kp2.set _
  have sz3 : g < w3.heap.size := by rw [hw3]; simpa using sz2
  have bz3 : w.heap.size < w3.heap.size := by rw [hw3]; simpa using bz2
  clear hw3 a0 a1 a2 f0 f1 f2 b0 b1 own2 kp2 sz2 bz2 ne2 gne gne2
  by_cases hk : k = 3
  · subst hk
    clear HL
    go_upto_region 4 with fail
    refine wp_region_noPanic ?_
    refine wp_region_U 12 (fun W => W.cell? ⟨g, 1, none⟩ = some (.int .i64 n) ∧ W.cell? ⟨g, 2, none⟩ = some (.int .i64 d) ∧ W.cell? ⟨w.heap.size, 0, none⟩ = some (.int .i64 p) ∧ W.cell? ⟨w.heap.size, 1, none⟩ = some (.int .i64 q)) (by kernel_rfl) (by simp [go_sem, d1, d2, e0, e1]) (fun hHeld => ?_)
    (refine wpAnyU_take (i := 0) (v := ?_) (by rfl) (by decide) (by kernel_rfl) (by kernel_rfl) (by kernel_rfl) (by kernel_rfl) (by kernel_rfl) (fun _ _ _ h => h) (Or.inl ⟨by rfl, ?_⟩) (by assumption) ?_; rotate_left; (focus (intro w hSw; (try dsimp only at hSw); go_simp; (try with_reducible rfl))); (try simp only [Act.put, List.setIfInBounds_toArray, List.set_cons_zero, List.set_cons_succ]))
    (refine wpAnyU_take (i := 1) (v := ?_) (by rfl) (by decide) (by kernel_rfl) (by kernel_rfl) (by kernel_rfl) (by kernel_rfl) (by kernel_rfl) (fun _ _ _ h => h) (Or.inl ⟨by rfl, ?_⟩) (by assumption) ?_; rotate_left; (focus (intro w hSw; (try dsimp only at hSw); go_simp; (try with_reducible rfl))); (try simp only [Act.put, List.setIfInBounds_toArray, List.set_cons_zero, List.set_cons_succ]))
    (refine wpAnyU_take (i := 2) (v := ?_) (by rfl) (by decide) (by kernel_rfl) (by kernel_rfl) (by kernel_rfl) (by kernel_rfl) (by kernel_rfl) (fun _ _ _ h => h) (Or.inl ⟨by rfl, ?_⟩) (by assumption) ?_; rotate_left; (focus (intro w hSw; (try dsimp only at hSw); go_simp; (try with_reducible rfl))); (try simp only [Act.put, List.setIfInBounds_toArray, List.set_cons_zero, List.set_cons_succ]))
    (refine wpAnyU_take (i := 3) (v := ?_) (by rfl) (by decide) (by kernel_rfl) (by kernel_rfl) (by kernel_rfl) (by kernel_rfl) (by kernel_rfl) (fun _ _ _ h => h) (Or.inl ⟨by rfl, ?_⟩) (by assumption) ?_; rotate_left; (focus (intro w hSw; (try dsimp only at hSw); go_simp; (try with_reducible rfl))); (try simp only [Act.put, List.setIfInBounds_toArray, List.set_cons_zero, List.set_cons_succ]))
    (refine wpAnyU_take (i := 4) (v := ?_) (by rfl) (by decide) (by kernel_rfl) (by kernel_rfl) (by kernel_rfl) (by kernel_rfl) (by kernel_rfl) (fun _ _ _ h => h) (Or.inl ⟨by rfl, ?_⟩) (by assumption) ?_; rotate_left; (focus (intro w hSw; (try dsimp only at hSw); go_simp; (try with_reducible rfl))); (try simp only [Act.put, List.setIfInBounds_toArray, List.set_cons_zero, List.set_cons_succ]))
    (refine wpAnyU_take (i := 5) (v := ?_) (by rfl) (by decide) (by kernel_rfl) (by kernel_rfl) (by kernel_rfl) (by kernel_rfl) (by kernel_rfl) (fun _ _ _ h => h) (Or.inl ⟨by rfl, ?_⟩) (by assumption) ?_; rotate_left; (focus (intro w hSw; (try dsimp only at hSw); go_simp; (try with_reducible rfl))); (try simp only [Act.put, List.setIfInBounds_toArray, List.set_cons_zero, List.set_cons_succ]))
    (refine wpAnyU_one (i := 6) (by kernel_rfl) (by rfl) (fun K hK => ?_); go_simp; (go_at_call 81; refine (HA.out _).mono ?_; rintro e w4 ⟨rfl, hb4⟩; (have k1 := keepa hb4 (by simpa using sz3) hHeld.1); (have k2 := keepa hb4 (by simpa using sz3) hHeld.2.1); (have k3 := keepa hb4 (by simpa using bz3) hHeld.2.2.1); (have k4 := keepa hb4 (by simpa using bz3) hHeld.2.2.2)); (try go_wp2_with fail); refine hK.out _ _ (Or.inr (by exact ⟨k1, k2, k3, k4⟩)) (fun hHeld => ?_); replace hHeld := hHeld.resolve_left (by decide); clear hK; clear K; (try simp only [Act.put, List.setIfInBounds_toArray, List.set_cons_zero, List.set_cons_succ]))
    (refine wpAnyU_take (i := 7) (v := ?_) (by rfl) (by decide) (by kernel_rfl) (by kernel_rfl) (by kernel_rfl) (by kernel_rfl) (by kernel_rfl) (fun _ _ _ h => h) (Or.inl ⟨by rfl, ?_⟩) (by assumption) ?_; rotate_left; (focus (intro w hSw; (try dsimp only at hSw); go_simp; (try with_reducible rfl))); (try simp only [Act.put, List.setIfInBounds_toArray, List.set_cons_zero, List.set_cons_succ]))
    (refine wpAnyU_take (i := 8) (v := ?_) (by rfl) (by decide) (by kernel_rfl) (by kernel_rfl) (by kernel_rfl) (by kernel_rfl) (by kernel_rfl) (fun _ _ _ h => h) (Or.inl ⟨by rfl, ?_⟩) (by assumption) ?_; rotate_left; (focus (intro w hSw; (try dsimp only at hSw); go_simp; (try with_reducible rfl))); (try simp only [Act.put, List.setIfInBounds_toArray, List.set_cons_zero, List.set_cons_succ]))
    (refine wpAnyU_pure (i := 9) (v := ?_) (by rfl) (by decide) (by kernel_rfl) (by kernel_rfl) (by kernel_rfl) (fun _ _ _ h => h) (Or.inl ⟨by rfl, ?_⟩) (by first | exact Or.inr (by assumption) | exact Or.inl (by kernel_rfl)) ?_; rotate_left; (focus (intro w hSw; go_simp; (try with_reducible rfl))); (try simp only [Act.put, List.setIfInBounds_toArray, List.set_cons_zero, List.set_cons_succ]))
    (refine wpAnyU_pure (i := 10) (v := ?_) (by rfl) (by decide) (by kernel_rfl) (by kernel_rfl) (by kernel_rfl) (fun _ _ _ h => h) (Or.inl ⟨by rfl, ?_⟩) (by first | exact Or.inr (by assumption) | exact Or.inl (by kernel_rfl)) ?_; rotate_left; (focus (intro w hSw; go_simp; (try with_reducible rfl))); (try simp only [Act.put, List.setIfInBounds_toArray, List.set_cons_zero, List.set_cons_succ]))
    (refine wpAnyU_take (i := 11) (v := ?_) (by rfl) (by decide) (by kernel_rfl) (by kernel_rfl) (by kernel_rfl) (by kernel_rfl) (by kernel_rfl) (fun _ _ _ h => h) (Or.inl ⟨by rfl, ?_⟩) (by assumption) ?_; rotate_left; (focus (intro w hSw; (try dsimp only at hSw); go_simp; (try with_reducible rfl))); (try simp only [Act.put, List.setIfInBounds_toArray, List.set_cons_zero, List.set_cons_succ]))
    have hb5 : Below w3.heap.size w3 w4 := by (repeat (first | with_reducible exact Below.refl _ _ | with_reducible assumption | with_reducible refine balloc ?_ _ | with_reducible refine bdrew ?_ | with_reducible refine below_drewN ?_ _ | with_reducible refine bset ?_ ?_ _ | with_reducible exact Nat.le_refl _ | with_reducible refine bsize ?_ | (dsimp only; refine Nat.le_trans ?_ (Nat.le_add_right _ _)) | with_reducible refine Nat.le_trans ?_ (Nat.le_add_right _ _) | (with_reducible refine bstep ?_ (by assumption))))
    have kp := kp3.below hb5 sz3
    have y0 := keepa hb5 sz3 d0
    have y1 := keepa hb5 sz3 d1
    have y2 := keepa hb5 sz3 d2
    have x0 := keepf hb5 sz3 t0
    have x1 := keepf hb5 sz3 t1
    have x2 := keepf hb5 sz3 t2
    have own4 := ownsRow_below own3 hb5
    have sz4 : g < w4.heap.size := Nat.lt_of_lt_of_le sz3 hb5.size
    have ne4 := own_ne own4 (b := g) (by omega)
    clear hb4 hb5 k1 k2 k3 k4 d0 d1 d2 t0 t1 t2 e0 e1 own3 kp3
    refine wpAnyU_one (i := 12) (by kernel_rfl) (by rfl) (fun K hK => ?_)
    go_simp
    refine hK.out _ _ (Or.inl (by kernel_rfl)) (fun _ => ?_)
    refine wpAnyU_done (by kernel_rfl) ?_ _
    refine NoPanic.normal ?_
    go_wp2
    go_end0
    refine ⟨rfl, _, ⟨?_, ?_, ?_, ?_, ?_, ?_, (by rw [hlen]; exact own_set (p := ⟨g, 2, none⟩) (own_set (p := ⟨g, 1, none⟩) own4 ne4 _) ne4 _), by simpa using sz4⟩, (kp.set _).set _⟩
    all_goals simp [go_sem, y0, y1, y2, x0, x1, x2, sz4, tnN, tnD]
  · have hk3 : (k == 3) = false := by simpa using hk
    clear HA
    go_upto_region 5 with fail
    refine wp_region_noPanic ?_
    refine wp_region_U 12 (fun W => W.cell? ⟨g, 1, none⟩ = some (.int .i64 n) ∧ W.cell? ⟨g, 2, none⟩ = some (.int .i64 d) ∧ W.cell? ⟨w.heap.size, 0, none⟩ = some (.int .i64 p) ∧ W.cell? ⟨w.heap.size, 1, none⟩ = some (.int .i64 q)) (by kernel_rfl) (by simp [go_sem, d1, d2, e0, e1]) (fun hHeld => ?_)
    (refine wpAnyU_take (i := 0) (v := ?_) (by rfl) (by decide) (by kernel_rfl) (by kernel_rfl) (by kernel_rfl) (by kernel_rfl) (by kernel_rfl) (fun _ _ _ h => h) (Or.inl ⟨by rfl, ?_⟩) (by assumption) ?_; rotate_left; (focus (intro w hSw; (try dsimp only at hSw); go_simp; (try with_reducible rfl))); (try simp only [Act.put, List.setIfInBounds_toArray, List.set_cons_zero, List.set_cons_succ]))
    (refine wpAnyU_take (i := 1) (v := ?_) (by rfl) (by decide) (by kernel_rfl) (by kernel_rfl) (by kernel_rfl) (by kernel_rfl) (by kernel_rfl) (fun _ _ _ h => h) (Or.inl ⟨by rfl, ?_⟩) (by assumption) ?_; rotate_left; (focus (intro w hSw; (try dsimp only at hSw); go_simp; (try with_reducible rfl))); (try simp only [Act.put, List.setIfInBounds_toArray, List.set_cons_zero, List.set_cons_succ]))
    (refine wpAnyU_take (i := 2) (v := ?_) (by rfl) (by decide) (by kernel_rfl) (by kernel_rfl) (by kernel_rfl) (by kernel_rfl) (by kernel_rfl) (fun _ _ _ h => h) (Or.inl ⟨by rfl, ?_⟩) (by assumption) ?_; rotate_left; (focus (intro w hSw; (try dsimp only at hSw); go_simp; (try with_reducible rfl))); (try simp only [Act.put, List.setIfInBounds_toArray, List.set_cons_zero, List.set_cons_succ]))
    (refine wpAnyU_take (i := 3) (v := ?_) (by rfl) (by decide) (by kernel_rfl) (by kernel_rfl) (by kernel_rfl) (by kernel_rfl) (by kernel_rfl) (fun _ _ _ h => h) (Or.inl ⟨by rfl, ?_⟩) (by assumption) ?_; rotate_left; (focus (intro w hSw; (try dsimp only at hSw); go_simp; (try with_reducible rfl))); (try simp only [Act.put, List.setIfInBounds_toArray, List.set_cons_zero, List.set_cons_succ]))
    (refine wpAnyU_take (i := 4) (v := ?_) (by rfl) (by decide) (by kernel_rfl) (by kernel_rfl) (by kernel_rfl) (by kernel_rfl) (by kernel_rfl) (fun _ _ _ h => h) (Or.inl ⟨by rfl, ?_⟩) (by assumption) ?_; rotate_left; (focus (intro w hSw; (try dsimp only at hSw); go_simp; (try with_reducible rfl))); (try simp only [Act.put, List.setIfInBounds_toArray, List.set_cons_zero, List.set_cons_succ]))
    (refine wpAnyU_take (i := 5) (v := ?_) (by rfl) (by decide) (by kernel_rfl) (by kernel_rfl) (by kernel_rfl) (by kernel_rfl) (by kernel_rfl) (fun _ _ _ h => h) (Or.inl ⟨by rfl, ?_⟩) (by assumption) ?_; rotate_left; (focus (intro w hSw; (try dsimp only at hSw); go_simp; (try with_reducible rfl))); (try simp only [Act.put, List.setIfInBounds_toArray, List.set_cons_zero, List.set_cons_succ]))
    (refine wpAnyU_one (i := 6) (by kernel_rfl) (by rfl) (fun K hK => ?_); go_simp; (go_at_call 105; refine (HL.out _).mono ?_; rintro e w4 ⟨rfl, hb4⟩; (have k1 := keepa hb4 (by simpa using sz3) hHeld.1); (have k2 := keepa hb4 (by simpa using sz3) hHeld.2.1); (have k3 := keepa hb4 (by simpa using bz3) hHeld.2.2.1); (have k4 := keepa hb4 (by simpa using bz3) hHeld.2.2.2)); (try go_wp2_with fail); refine hK.out _ _ (Or.inr (by exact ⟨k1, k2, k3, k4⟩)) (fun hHeld => ?_); replace hHeld := hHeld.resolve_left (by decide); clear hK; clear K; (try simp only [Act.put, List.setIfInBounds_toArray, List.set_cons_zero, List.set_cons_succ]))
    (refine wpAnyU_take (i := 7) (v := ?_) (by rfl) (by decide) (by kernel_rfl) (by kernel_rfl) (by kernel_rfl) (by kernel_rfl) (by kernel_rfl) (fun _ _ _ h => h) (Or.inl ⟨by rfl, ?_⟩) (by assumption) ?_; rotate_left; (focus (intro w hSw; (try dsimp only at hSw); go_simp; (try with_reducible rfl))); (try simp only [Act.put, List.setIfInBounds_toArray, List.set_cons_zero, List.set_cons_succ]))
    (refine wpAnyU_take (i := 8) (v := ?_) (by rfl) (by decide) (by kernel_rfl) (by kernel_rfl) (by kernel_rfl) (by kernel_rfl) (by kernel_rfl) (fun _ _ _ h => h) (Or.inl ⟨by rfl, ?_⟩) (by assumption) ?_; rotate_left; (focus (intro w hSw; (try dsimp only at hSw); go_simp; (try with_reducible rfl))); (try simp only [Act.put, List.setIfInBounds_toArray, List.set_cons_zero, List.set_cons_succ]))
    (refine wpAnyU_pure (i := 9) (v := ?_) (by rfl) (by decide) (by kernel_rfl) (by kernel_rfl) (by kernel_rfl) (fun _ _ _ h => h) (Or.inl ⟨by rfl, ?_⟩) (by first | exact Or.inr (by assumption) | exact Or.inl (by kernel_rfl)) ?_; rotate_left; (focus (intro w hSw; go_simp; (try with_reducible rfl))); (try simp only [Act.put, List.setIfInBounds_toArray, List.set_cons_zero, List.set_cons_succ]))
    (refine wpAnyU_pure (i := 10) (v := ?_) (by rfl) (by decide) (by kernel_rfl) (by kernel_rfl) (by kernel_rfl) (fun _ _ _ h => h) (Or.inl ⟨by rfl, ?_⟩) (by first | exact Or.inr (by assumption) | exact Or.inl (by kernel_rfl)) ?_; rotate_left; (focus (intro w hSw; go_simp; (try with_reducible rfl))); (try simp only [Act.put, List.setIfInBounds_toArray, List.set_cons_zero, List.set_cons_succ]))
    (refine wpAnyU_take (i := 11) (v := ?_) (by rfl) (by decide) (by kernel_rfl) (by kernel_rfl) (by kernel_rfl) (by kernel_rfl) (by kernel_rfl) (fun _ _ _ h => h) (Or.inl ⟨by rfl, ?_⟩) (by assumption) ?_; rotate_left; (focus (intro w hSw; (try dsimp only at hSw); go_simp; (try with_reducible rfl))); (try simp only [Act.put, List.setIfInBounds_toArray, List.set_cons_zero, List.set_cons_succ]))
    have hb5 : Below w3.heap.size w3 w4 := by (repeat (first | with_reducible exact Below.refl _ _ | with_reducible assumption | with_reducible refine balloc ?_ _ | with_reducible refine bdrew ?_ | with_reducible refine below_drewN ?_ _ | with_reducible refine bset ?_ ?_ _ | with_reducible exact Nat.le_refl _ | with_reducible refine bsize ?_ | (dsimp only; refine Nat.le_trans ?_ (Nat.le_add_right _ _)) | with_reducible refine Nat.le_trans ?_ (Nat.le_add_right _ _) | (with_reducible refine bstep ?_ (by assumption))))
    have kp := kp3.below hb5 sz3
    have y0 := keepa hb5 sz3 d0
    have y1 := keepa hb5 sz3 d1
    have y2 := keepa hb5 sz3 d2
    have x0 := keepf hb5 sz3 t0
    have x1 := keepf hb5 sz3 t1
    have x2 := keepf hb5 sz3 t2
    have own4 := ownsRow_below own3 hb5
    have sz4 : g < w4.heap.size := Nat.lt_of_lt_of_le sz3 hb5.size
    have ne4 := own_ne own4 (b := g) (by omega)
    clear hb4 hb5 k1 k2 k3 k4 d0 d1 d2 t0 t1 t2 e0 e1 own3 kp3
    refine wpAnyU_one (i := 12) (by kernel_rfl) (by rfl) (fun K hK => ?_)
    go_simp
    refine hK.out _ _ (Or.inl (by kernel_rfl)) (fun _ => ?_)
    refine wpAnyU_done (by kernel_rfl) ?_ _
    refine NoPanic.normal ?_
    go_wp2
    go_end0
    refine ⟨rfl, _, ⟨?_, ?_, ?_, ?_, ?_, ?_, (by rw [hlen]; exact own_set (p := ⟨g, 2, none⟩) (own_set (p := ⟨g, 1, none⟩) own4 ne4 _) ne4 _), by simpa using sz4⟩, (kp.set _).set _⟩
    all_goals simp [go_sem, y0, y1, y2, x0, x1, x2, sz4, tnN, tnD, hk]

end Go.Proofs.Ytjmmlknbdmngeaa
