/- Camels: contracts of leftAt, goodsFor, wayWith, oneTrip, of the program. -/
import Derived.Test.YtgpbkjakmbmccaaCam2
namespace Go.Proofs.Ytgpbkjakmbmccaa
open Go.RowKit
set_option maxRecDepth 100000
set_option linter.unusedVariables false
set_option linter.unusedSimpArgs false

@[go_sem, simp] theorem nek2 (n : Nat) : (n = n + 1 + 1) = False := by simp; omega
@[go_sem, simp] theorem nek3 (n : Nat) : (n = n + 1 + 1 + 1) = False := by simp; omega
/-- A block holds two cells that may be written. -/
def HasRes (b : Nat) (w : World) : Prop := ∃ x y, w.cell? ⟨b, 0, none⟩ = some x ∧ w.cell? ⟨b, 1, none⟩ = some y ∧ w.frozen? ⟨b, 0, none⟩ = false ∧ w.frozen? ⟨b, 1, none⟩ = false ∧ b < w.heap.size
theorem HasRes.later {b : Nat} {w w' : World} (h : HasRes b w) (hb : Below w.heap.size w w') : HasRes b w' := by
  obtain ⟨x, y, a1, a2, a3, a4, a5⟩ := h
  exact ⟨x, y, keepa hb a5 a1, keepa hb a5 a2, keepz hb a5 a3, keepz hb a5 a4, Nat.lt_of_lt_of_le a5 hb.size⟩
theorem HasRes.drew {b : Nat} {w : World} (h : HasRes b w) : HasRes b w.drew := by
  obtain ⟨x, y, a1, a2, a3, a4, a5⟩ := h
  exact ⟨x, y, a1, a2, a3, a4, a5⟩
theorem HasRes.set {b : Nat} {w : World} (h : HasRes b w) (o : Nat) (v : Value) (ho : o < 2) : HasRes b (w.setCell ⟨b, o, none⟩ v) := by
  obtain ⟨x, y, a1, a2, a3, a4, a5⟩ := h
  have hc : o = 0 ∨ o = 1 := by omega
  rcases hc with rfl | rfl
  · exact ⟨v, y, by simp [go_sem, a1, a2, a5], by simp [go_sem, a1, a2, a5], by simp [go_sem, a3], by simp [go_sem, a4], by simpa using a5⟩
  · exact ⟨x, v, by simp [go_sem, a1, a2, a5], by simp [go_sem, a1, a2, a5], by simp [go_sem, a3], by simp [go_sem, a4], by simpa using a5⟩
set_option maxHeartbeats 1600000 in
theorem leftAt_impl (L E n d p q : Int) (hL : 1 ≤ L) (hL2 : L ≤ 12) (hE : 1 ≤ E) (hE2 : E ≤ 12) (hn : 0 ≤ n) (hd : 1 ≤ d) (hd2 : d ≤ 12) (hn6 : n ≤ 6 * L * d) (hp : 0 ≤ p) (hp2 : p ≤ 1000000000) (hq : 1 ≤ q) (hq2 : q ≤ 1000000) (w : World) :
    Calls Try.prog 58 #[.agg #[.int .i64 L, .int .i64 E], .agg #[.int .i64 n, .int .i64 d], .agg #[.int .i64 p, .int .i64 q]] w fun e w' => e = .returned (.tuple #[.agg #[.int .i64 (lowN (eS (L * (d * q)) (dS (L * (d * q)) (q * n) - d * 3465 * p * E)) ((d * q * 3465))), .int .i64 (lowD (eS (L * (d * q)) (dS (L * (d * q)) (q * n) - d * 3465 * p * E)) ((d * q * 3465)))], .bool (lowB (eS (L * (d * q)) (dS (L * (d * q)) (q * n) - d * 3465 * p * E)) ((d * q * 3465)))]) ∧ Below w.heap.size w w' := by
  have B := cam_bd L E n d p q hL hL2 hE hE2 hn hd hd2 hn6 hp hp2 hq hq2
  have C0 := Lib.hid (fun W => mes_impl L E n d p q (by omega) (by omega) (by omega) hq2 W)
  have C1 := Lib.hid (fun W => crumbs_impl L E (d * q * 3465) n d (q * 3465) (by ac_rfl) hd (by omega) (by have := B.m2; omega) (by rw [B.e1]; have := B.u1; omega) (by rw [B.e1]; have := B.u2; omega) W)
  have C2 := Lib.hid (fun W => lasts_impl L E (d * q * 3465) (L * (d * q)) (q * n) B.e2 B.l1 (by have := B.l2; omega) B.u1 (by have := B.u2; omega) W)
  have hD := dS_bd (L * (d * q)) (q * n) (by have := B.l1; omega)
  have C3 := Lib.hid (fun W => paces_impl L E (d * q * 3465) p q (d * 3465) (by ac_rfl) hq (by omega) (by have := B.m2; omega) B.w1 (by have := B.w2; omega) B.w3 (by have := B.w4; omega) W)
  have C4 := Lib.hid (fun x h h' W => eaten_impl L E (d * q * 3465) (L * (d * q)) x B.e2 B.l1 (by have := B.l2; omega) h h' W)
  have C5 := Lib.hid (fun x h W => goods_impl L E (d * q * 3465) x h (by have := B.m2; omega) W)
  have hes := eS_bd (L * (d * q)) (dS (L * (d * q)) (q * n) - d * 3465 * p * E) B.l1
  rw [B.e1] at C1
  obtain ⟨m1, m2, l1, l2, u1, u2, u6, w1, w2, w3, w4, _, _⟩ := B
  generalize d * q * 3465 = M at *
  generalize dS (L * (d * q)) (q * n) = F at *
  generalize L * (d * q) = l at *
  generalize q * n = u at *
  generalize d * 3465 * p * E = ww at *
  have C4' := Lib.hid (C4.out (F - ww) (by omega) (by omega))
  have C5' := Lib.hid (C5.out (eS l (F - ww)) (by omega))
  clear C4 C5
  generalize eS l (F - ww) = X at *
  generalize decide (F - ww ≤ 6508 * l) = b4 at *
  generalize decide (u ≤ 6 * l) = b2 at *
  go_enter Try.func58, Try.ntmps58
  (go_wp2_with fail; refine (C0.out _).mono ?_; rintro e w1 ⟨rfl, hb1⟩; have ha1 := hb1; obtain ⟨kc1, kf1, kz1, ky1, kx1, kv1, ku1⟩ := bcell hb1)
  go_wp2_with fail
  obtain ⟨g, hg⟩ : ∃ g, g = w1.heap.size := ⟨_, rfl⟩
  rw [← hg]
  obtain ⟨V, hV⟩ : ∃ V, V = w1.alloc (.cells #[.int .i64 L, .int .i64 E, .int .i64 M] 98) := ⟨_, rfl⟩
  rw [← hV]
  have bV : Below w.heap.size w V := by subst hV; (repeat (first | with_reducible exact Below.refl _ _ | with_reducible assumption | with_reducible refine balloc ?_ _ | with_reducible refine bdrew ?_ | with_reducible refine below_drewN ?_ _ | with_reducible refine bset ?_ ?_ _ | with_reducible exact Nat.le_refl _ | with_reducible refine bsize ?_ | (dsimp only; refine Nat.le_trans ?_ (Nat.le_add_right _ _)) | with_reducible refine Nat.le_trans ?_ (Nat.le_add_right _ _) | (with_reducible refine bstep ?_ (by assumption))))
  have sg : g < V.heap.size := by subst hV; subst hg; simp
  have s3 : w.heap.size + 1 + 1 + 1 < V.heap.size := by subst hV; simpa using ky1 (w.heap.size + 1 + 1 + 1) (by simp)
  have ng : ¬ g = w.heap.size + 1 + 1 + 1 := by have := kz1 (w.heap.size + 1 + 1 + 1) (by simp); omega
  have ng2 : ¬ w.heap.size + 1 + 1 + 1 = g := by omega
  have s2 : w.heap.size + 1 + 1 < V.heap.size := by omega
  have s1 : w.heap.size + 1 < V.heap.size := by omega
  have c1 : V.cell? ⟨g, 0, none⟩ = some (.int .i64 L) := by subst hV; subst hg; simp
  have c2 : V.cell? ⟨g, 1, none⟩ = some (.int .i64 E) := by subst hV; subst hg; simp
  have c3 : V.cell? ⟨g, 2, none⟩ = some (.int .i64 M) := by subst hV; subst hg; simp
  have c4 : V.cell? ⟨w.heap.size + 1, 0, none⟩ = some (.int .i64 n) := by subst hV; simp [go_sem, kc1, kz1]
  have c5 : V.cell? ⟨w.heap.size + 1, 1, none⟩ = some (.int .i64 d) := by subst hV; simp [go_sem, kc1, kz1]
  have c6 : V.cell? ⟨w.heap.size + 1 + 1, 0, none⟩ = some (.int .i64 p) := by subst hV; simp [go_sem, kc1, kz1]
  have c7 : V.cell? ⟨w.heap.size + 1 + 1, 1, none⟩ = some (.int .i64 q) := by subst hV; simp [go_sem, kc1, kz1]
  have r1 : V.cell? ⟨w.heap.size + 1 + 1 + 1, 0, none⟩ = some (.int .i64 0) := by subst hV; simp [go_sem, kc1, kz1]
  have r2 : V.cell? ⟨w.heap.size + 1 + 1 + 1, 1, none⟩ = some (.int .i64 0) := by subst hV; simp [go_sem, kc1, kz1]
  have r3 : V.frozen? ⟨w.heap.size + 1 + 1 + 1, 0, none⟩ = false := by subst hV; simp [go_sem, kf1, kz1]
  have r4 : V.frozen? ⟨w.heap.size + 1 + 1 + 1, 1, none⟩ = false := by subst hV; simp [go_sem, kf1, kz1]
  clear hg hV hb1 ha1 kc1 kf1 kz1 ky1 kx1 kv1 ku1 C0
  go_region_held3 (fun w' => Below V.heap.size V w' ∧ w'.cell? ⟨g, 0, none⟩ = some (.int .i64 L) ∧ w'.cell? ⟨g, 1, none⟩ = some (.int .i64 E) ∧ w'.cell? ⟨g, 2, none⟩ = some (.int .i64 M) ∧ w'.cell? ⟨w.heap.size + 1, 0, none⟩ = some (.int .i64 n) ∧ w'.cell? ⟨w.heap.size + 1, 1, none⟩ = some (.int .i64 d) ∧ w'.cell? ⟨w.heap.size + 1 + 1, 0, none⟩ = some (.int .i64 p) ∧ w'.cell? ⟨w.heap.size + 1 + 1, 1, none⟩ = some (.int .i64 q)) (((go_split_ands; (repeat' with_reducible apply And.intro) <;> first | assumption | exact Below.refl _ _ | exact bdrew (Below.refl _ _) | exact bdrew (by assumption) | (simp [go_sem]; done) | go_keep))) (first | (go_at_call 91; refine (C1.out _).mono ?_; rintro e w1 ⟨rfl, hb⟩; go_split_ands; (have f0 := bstep (by assumption : Below V.heap.size V _) hb); (have f1 := keepa f0 sg c1); (have f2 := keepa f0 sg c2); (have f3 := keepa f0 sg c3); (have f4 := keepa f0 s1 c4); (have f5 := keepa f0 s1 c5); (have f6 := keepa f0 s2 c6); (have f7 := keepa f0 s2 c7)) | (go_at_call 96; refine (C2.out _).mono ?_; rintro e w1 ⟨rfl, hb⟩; go_split_ands; (have f0 := bstep (by assumption : Below V.heap.size V _) hb); (have f1 := keepa f0 sg c1); (have f2 := keepa f0 sg c2); (have f3 := keepa f0 sg c3); (have f4 := keepa f0 s1 c4); (have f5 := keepa f0 s1 c5); (have f6 := keepa f0 s2 c6); (have f7 := keepa f0 s2 c7)))
  all_goals go_wp2_with fail
  all_goals have wq1 : IntKind.i64.wrap (F - ww) = F - ww := IntWalk.i64_in _ (by omega)
  all_goals go_region_held3 (fun w' => Below V.heap.size V w' ∧ w'.cell? ⟨g, 0, none⟩ = some (.int .i64 L) ∧ w'.cell? ⟨g, 1, none⟩ = some (.int .i64 E) ∧ w'.cell? ⟨g, 2, none⟩ = some (.int .i64 M) ∧ w'.cell? ⟨w.heap.size + 1, 0, none⟩ = some (.int .i64 n) ∧ w'.cell? ⟨w.heap.size + 1, 1, none⟩ = some (.int .i64 d) ∧ w'.cell? ⟨w.heap.size + 1 + 1, 0, none⟩ = some (.int .i64 p) ∧ w'.cell? ⟨w.heap.size + 1 + 1, 1, none⟩ = some (.int .i64 q)) (((go_split_ands; (repeat' with_reducible apply And.intro) <;> first | assumption | exact Below.refl _ _ | exact bdrew (Below.refl _ _) | exact bdrew (by assumption) | (simp [go_sem]; done) | go_keep))) (first | (go_at_call 98; refine (C3.out _).mono ?_; rintro e w1 ⟨rfl, hb⟩; go_split_ands; (have f0 := bstep (by assumption : Below V.heap.size V _) hb); (have f1 := keepa f0 sg c1); (have f2 := keepa f0 sg c2); (have f3 := keepa f0 sg c3); (have f4 := keepa f0 s1 c4); (have f5 := keepa f0 s1 c5); (have f6 := keepa f0 s2 c6); (have f7 := keepa f0 s2 c7)) | (go_at_call 97; refine (C4'.out _).mono ?_; rintro e w1 ⟨rfl, hb⟩; go_split_ands; (have f0 := bstep (by assumption : Below V.heap.size V _) hb); (have f1 := keepa f0 sg c1); (have f2 := keepa f0 sg c2); (have f3 := keepa f0 sg c3); (have f4 := keepa f0 s1 c4); (have f5 := keepa f0 s1 c5); (have f6 := keepa f0 s2 c6); (have f7 := keepa f0 s2 c7)))
  all_goals go_wp2_with fail
  all_goals refine (C5'.out _).mono ?_
  all_goals rintro e w5 ⟨rfl, hb5⟩
  all_goals have bV5 : Below V.heap.size V w5 := bstep (by assumption) hb5
  all_goals have q1 := keepa bV5 s3 r1
  all_goals have q2 := keepa bV5 s3 r2
  all_goals have q3 := keepz bV5 s3 r3
  all_goals have q4 := keepz bV5 s3 r4
  all_goals have z5 : w.heap.size + 1 + 1 + 1 < w5.heap.size := Nat.lt_of_lt_of_le s3 bV5.size
  all_goals have bw5 : Below w.heap.size w w5 := bstep bV bV5
  all_goals clear bV5
  all_goals go_wp2
  all_goals refine bodyPost_ret (v := .tuple #[.agg #[.int .i64 (lowN (X) (M)), .int .i64 (lowD (X) (M))], .bool (lowB (X) (M))]) (by simp only [results, Try.results58]; go_simp) rfl ⟨rfl, ?_⟩
  all_goals (repeat (first | with_reducible exact Below.refl _ _ | with_reducible assumption | with_reducible refine balloc ?_ _ | with_reducible refine bdrew ?_ | with_reducible refine below_drewN ?_ _ | with_reducible refine bset ?_ ?_ _ | with_reducible exact Nat.le_refl _ | with_reducible refine bsize ?_ | (dsimp only; refine Nat.le_trans ?_ (Nat.le_add_right _ _)) | with_reducible refine Nat.le_trans ?_ (Nat.le_add_right _ _) | (with_reducible refine bstep ?_ (by assumption))))
set_option maxHeartbeats 1600000 in
theorem wayWith_impl (L E n d p q : Int) (hL : 1 ≤ L) (hL2 : L ≤ 12) (hE : 1 ≤ E) (hE2 : E ≤ 12) (hn : 0 ≤ n) (hd : 1 ≤ d) (hd2 : d ≤ 12) (hn6 : n ≤ 6 * L * d) (hp : 0 ≤ p) (hp2 : p ≤ 1000000000) (hq : 1 ≤ q) (hq2 : q ≤ 1000000) (w : World) :
    Calls Try.prog 85 #[.agg #[.int .i64 L, .int .i64 E], .agg #[.int .i64 n, .int .i64 d], .agg #[.int .i64 p, .int .i64 q]] w fun e w' => e = .returned (.tuple #[.agg #[.int .i64 (twoN (decide (d * p ≤ 6 * (L * (d * q)))) (dS (L * (d * q)) (q * n) - dS (L * (d * q)) (d * p)) ((d * q * 3465) * E)), .int .i64 (twoD (decide (d * p ≤ 6 * (L * (d * q)))) (dS (L * (d * q)) (q * n) - dS (L * (d * q)) (d * p)) ((d * q * 3465) * E))], .bool (twoB (decide (d * p ≤ 6 * (L * (d * q)))) (dS (L * (d * q)) (q * n) - dS (L * (d * q)) (d * p)) ((d * q * 3465) * E))]) ∧ Below w.heap.size w w' := by
  have B := cam_bd L E n d p q hL hL2 hE hE2 hn hd hd2 hn6 hp hp2 hq hq2
  have C0 := Lib.hid (fun W => mes_impl L E n d p q (by omega) (by omega) (by omega) hq2 W)
  have C1 := Lib.hid (fun W => crumbs_impl L E (d * q * 3465) n d (q * 3465) (by ac_rfl) hd (by omega) (by have := B.m2; omega) (by rw [B.e1]; have := B.u1; omega) (by rw [B.e1]; have := B.u2; omega) W)
  have C2 := Lib.hid (fun W => lasts_impl L E (d * q * 3465) (L * (d * q)) (q * n) B.e2 B.l1 (by have := B.l2; omega) B.u1 (by have := B.u2; omega) W)
  have hD := dS_bd (L * (d * q)) (q * n) (by have := B.l1; omega)
  have hv := mul_le2 d p 12 1000000000 (by omega) hd2 hp hp2
  have hme := mul_le2 (d * q * 3465) E 41580000000 12 (by have := B.m1; omega) B.m2 (by omega) hE2
  have hve : d * 3465 * p = 3465 * (d * p) := by ac_rfl
  have C3 := Lib.hid (fun W => crumbs_impl L E (d * q * 3465) p q (d * 3465) (by ac_rfl) hq (by omega) (by have := B.m2; omega) (by rw [hve]; omega) (by rw [hve]; omega) W)
  rw [hve] at C3
  have C4 := Lib.hid (fun W => lasts_impl L E (d * q * 3465) (L * (d * q)) (d * p) B.e2 B.l1 (by have := B.l2; omega) hv.1 (by omega) W)
  have C5 := Lib.hid (fun x h W => way_impl L E (d * q * 3465) x (d * q * 3465 * E) rfl h hme.1 (by omega) W)
  have hD2 := dS_bd (L * (d * q)) (d * p) (by have := B.l1; omega)
  rw [B.e1] at C1
  obtain ⟨m1, m2, l1, l2, u1, u2, u6, w1, w2, w3, w4, _, _⟩ := B
  clear w1 w2 w3 w4 hve
  have hm0 := hme.1
  have hm1 := hme.2
  clear hme
  generalize d * q * 3465 * E = ME at *
  generalize d * q * 3465 = M at *
  generalize dS (L * (d * q)) (q * n) = F at *
  generalize dS (L * (d * q)) (d * p) = G at *
  generalize L * (d * q) = l at *
  generalize q * n = u at *
  generalize d * p = v at *
  have C5' := Lib.hid (C5.out (F - G) (by omega))
  clear C5
  have wq1 : IntKind.i64.wrap (F - G) = F - G := IntWalk.i64_in _ (by omega)
  generalize hX : F - G = X at *
  generalize decide (v ≤ 6 * l) = b4 at *
  generalize decide (u ≤ 6 * l) = b2 at *
  cases b4
  · rw [(two_no _ _).1, (two_no _ _).2.1, (two_no _ _).2.2]
    go_enter Try.func85, Try.ntmps85
    (go_wp2_with fail; refine (C0.out _).mono ?_; rintro e w1 ⟨rfl, hb1⟩; have ha1 := hb1; obtain ⟨kc1, kf1, kz1, ky1, kx1, kv1, ku1⟩ := bcell hb1)
    go_wp2_with fail
    obtain ⟨g, hg⟩ : ∃ g, g = w1.heap.size := ⟨_, rfl⟩
    rw [← hg]
    obtain ⟨V, hV⟩ : ∃ V, V = w1.alloc (.cells #[.int .i64 L, .int .i64 E, .int .i64 M] 98) := ⟨_, rfl⟩
    rw [← hV]
    have bV : Below w.heap.size w V := by subst hV; (repeat (first | with_reducible exact Below.refl _ _ | with_reducible assumption | with_reducible refine balloc ?_ _ | with_reducible refine bdrew ?_ | with_reducible refine below_drewN ?_ _ | with_reducible refine bset ?_ ?_ _ | with_reducible exact Nat.le_refl _ | with_reducible refine bsize ?_ | (dsimp only; refine Nat.le_trans ?_ (Nat.le_add_right _ _)) | with_reducible refine Nat.le_trans ?_ (Nat.le_add_right _ _) | (with_reducible refine bstep ?_ (by assumption))))
    have sg : g < V.heap.size := by subst hV; subst hg; simp
    have s3 : w.heap.size + 1 + 1 + 1 < V.heap.size := by subst hV; simpa using ky1 (w.heap.size + 1 + 1 + 1) (by simp)
    have ng : ¬ g = w.heap.size + 1 + 1 + 1 := by have := kz1 (w.heap.size + 1 + 1 + 1) (by simp); omega
    have ng2 : ¬ w.heap.size + 1 + 1 + 1 = g := by omega
    have s2 : w.heap.size + 1 + 1 < V.heap.size := by omega
    have s1 : w.heap.size + 1 < V.heap.size := by omega
    have c1 : V.cell? ⟨g, 0, none⟩ = some (.int .i64 L) := by subst hV; subst hg; simp
    have c2 : V.cell? ⟨g, 1, none⟩ = some (.int .i64 E) := by subst hV; subst hg; simp
    have c3 : V.cell? ⟨g, 2, none⟩ = some (.int .i64 M) := by subst hV; subst hg; simp
    have c4 : V.cell? ⟨w.heap.size + 1, 0, none⟩ = some (.int .i64 n) := by subst hV; simp [go_sem, kc1, kz1]
    have c5 : V.cell? ⟨w.heap.size + 1, 1, none⟩ = some (.int .i64 d) := by subst hV; simp [go_sem, kc1, kz1]
    have c6 : V.cell? ⟨w.heap.size + 1 + 1, 0, none⟩ = some (.int .i64 p) := by subst hV; simp [go_sem, kc1, kz1]
    have c7 : V.cell? ⟨w.heap.size + 1 + 1, 1, none⟩ = some (.int .i64 q) := by subst hV; simp [go_sem, kc1, kz1]
    have r1 : V.cell? ⟨w.heap.size + 1 + 1 + 1, 0, none⟩ = some (.int .i64 0) := by subst hV; simp [go_sem, kc1, kz1]
    have r2 : V.cell? ⟨w.heap.size + 1 + 1 + 1, 1, none⟩ = some (.int .i64 0) := by subst hV; simp [go_sem, kc1, kz1]
    have r3 : V.frozen? ⟨w.heap.size + 1 + 1 + 1, 0, none⟩ = false := by subst hV; simp [go_sem, kf1, kz1]
    have r4 : V.frozen? ⟨w.heap.size + 1 + 1 + 1, 1, none⟩ = false := by subst hV; simp [go_sem, kf1, kz1]
    clear hg hV hb1 ha1 kc1 kf1 kz1 ky1 kx1 kv1 ku1 C0
    go_region_held3 (fun w' => Below V.heap.size V w' ∧ w'.cell? ⟨g, 0, none⟩ = some (.int .i64 L) ∧ w'.cell? ⟨g, 1, none⟩ = some (.int .i64 E) ∧ w'.cell? ⟨g, 2, none⟩ = some (.int .i64 M) ∧ w'.cell? ⟨w.heap.size + 1, 0, none⟩ = some (.int .i64 n) ∧ w'.cell? ⟨w.heap.size + 1, 1, none⟩ = some (.int .i64 d) ∧ w'.cell? ⟨w.heap.size + 1 + 1, 0, none⟩ = some (.int .i64 p) ∧ w'.cell? ⟨w.heap.size + 1 + 1, 1, none⟩ = some (.int .i64 q)) (((go_split_ands; (repeat' with_reducible apply And.intro) <;> first | assumption | exact Below.refl _ _ | exact bdrew (Below.refl _ _) | exact bdrew (by assumption) | (simp [go_sem]; done) | go_keep))) (first | (go_at_call 91; refine (C1.out _).mono ?_; rintro e w1 ⟨rfl, hb⟩; go_split_ands; (have f0 := bstep (by assumption : Below V.heap.size V _) hb); (have f1 := keepa f0 sg c1); (have f2 := keepa f0 sg c2); (have f3 := keepa f0 sg c3); (have f4 := keepa f0 s1 c4); (have f5 := keepa f0 s1 c5); (have f6 := keepa f0 s2 c6); (have f7 := keepa f0 s2 c7)) | (go_at_call 96; refine (C2.out _).mono ?_; rintro e w1 ⟨rfl, hb⟩; go_split_ands; (have f0 := bstep (by assumption : Below V.heap.size V _) hb); (have f1 := keepa f0 sg c1); (have f2 := keepa f0 sg c2); (have f3 := keepa f0 sg c3); (have f4 := keepa f0 s1 c4); (have f5 := keepa f0 s1 c5); (have f6 := keepa f0 s2 c6); (have f7 := keepa f0 s2 c7)))
    all_goals go_wp2_with fail
    all_goals go_region_held3 (fun w' => Below V.heap.size V w' ∧ w'.cell? ⟨g, 0, none⟩ = some (.int .i64 L) ∧ w'.cell? ⟨g, 1, none⟩ = some (.int .i64 E) ∧ w'.cell? ⟨g, 2, none⟩ = some (.int .i64 M) ∧ w'.cell? ⟨w.heap.size + 1, 0, none⟩ = some (.int .i64 n) ∧ w'.cell? ⟨w.heap.size + 1, 1, none⟩ = some (.int .i64 d) ∧ w'.cell? ⟨w.heap.size + 1 + 1, 0, none⟩ = some (.int .i64 p) ∧ w'.cell? ⟨w.heap.size + 1 + 1, 1, none⟩ = some (.int .i64 q)) (((go_split_ands; (repeat' with_reducible apply And.intro) <;> first | assumption | exact Below.refl _ _ | exact bdrew (Below.refl _ _) | exact bdrew (by assumption) | (simp [go_sem]; done) | go_keep))) (first | (go_at_call 91; refine (C3.out _).mono ?_; rintro e w1 ⟨rfl, hb⟩; go_split_ands; (have f0 := bstep (by assumption : Below V.heap.size V _) hb); (have f1 := keepa f0 sg c1); (have f2 := keepa f0 sg c2); (have f3 := keepa f0 sg c3); (have f4 := keepa f0 s1 c4); (have f5 := keepa f0 s1 c5); (have f6 := keepa f0 s2 c6); (have f7 := keepa f0 s2 c7)) | (go_at_call 96; refine (C4.out _).mono ?_; rintro e w1 ⟨rfl, hb⟩; go_split_ands; (have f0 := bstep (by assumption : Below V.heap.size V _) hb); (have f1 := keepa f0 sg c1); (have f2 := keepa f0 sg c2); (have f3 := keepa f0 sg c3); (have f4 := keepa f0 s1 c4); (have f5 := keepa f0 s1 c5); (have f6 := keepa f0 s2 c6); (have f7 := keepa f0 s2 c7)))
    all_goals have bV5 : Below V.heap.size V w1 := by assumption
    all_goals have q1 := keepa bV5 s3 r1
    all_goals have q2 := keepa bV5 s3 r2
    all_goals have q3 := keepz bV5 s3 r3
    all_goals have q4 := keepz bV5 s3 r4
    all_goals have z5 : w.heap.size + 1 + 1 + 1 < w1.heap.size := Nat.lt_of_lt_of_le s3 bV5.size
    all_goals have bw1 : Below w.heap.size w w1 := bstep bV bV5
    all_goals clear bV5
    all_goals go_wp2
    all_goals refine bodyPost_ret (v := .tuple #[.agg #[.int .i64 0, .int .i64 0], .bool false]) (by simp only [results, Try.results85]; go_simp) rfl ⟨rfl, ?_⟩
    all_goals (repeat (first | with_reducible exact Below.refl _ _ | with_reducible assumption | with_reducible refine balloc ?_ _ | with_reducible refine bdrew ?_ | with_reducible refine below_drewN ?_ _ | with_reducible refine bset ?_ ?_ _ | with_reducible exact Nat.le_refl _ | with_reducible refine bsize ?_ | (dsimp only; refine Nat.le_trans ?_ (Nat.le_add_right _ _)) | with_reducible refine Nat.le_trans ?_ (Nat.le_add_right _ _) | (with_reducible refine bstep ?_ (by assumption))))
  · rw [(two_yes _ _).1, (two_yes _ _).2.1, (two_yes _ _).2.2]
    go_enter Try.func85, Try.ntmps85
    (go_wp2_with fail; refine (C0.out _).mono ?_; rintro e w1 ⟨rfl, hb1⟩; have ha1 := hb1; obtain ⟨kc1, kf1, kz1, ky1, kx1, kv1, ku1⟩ := bcell hb1)
    go_wp2_with fail
    obtain ⟨g, hg⟩ : ∃ g, g = w1.heap.size := ⟨_, rfl⟩
    rw [← hg]
    obtain ⟨V, hV⟩ : ∃ V, V = w1.alloc (.cells #[.int .i64 L, .int .i64 E, .int .i64 M] 98) := ⟨_, rfl⟩
    rw [← hV]
    have bV : Below w.heap.size w V := by subst hV; (repeat (first | with_reducible exact Below.refl _ _ | with_reducible assumption | with_reducible refine balloc ?_ _ | with_reducible refine bdrew ?_ | with_reducible refine below_drewN ?_ _ | with_reducible refine bset ?_ ?_ _ | with_reducible exact Nat.le_refl _ | with_reducible refine bsize ?_ | (dsimp only; refine Nat.le_trans ?_ (Nat.le_add_right _ _)) | with_reducible refine Nat.le_trans ?_ (Nat.le_add_right _ _) | (with_reducible refine bstep ?_ (by assumption))))
    have sg : g < V.heap.size := by subst hV; subst hg; simp
    have s3 : w.heap.size + 1 + 1 + 1 < V.heap.size := by subst hV; simpa using ky1 (w.heap.size + 1 + 1 + 1) (by simp)
    have ng : ¬ g = w.heap.size + 1 + 1 + 1 := by have := kz1 (w.heap.size + 1 + 1 + 1) (by simp); omega
    have ng2 : ¬ w.heap.size + 1 + 1 + 1 = g := by omega
    have s2 : w.heap.size + 1 + 1 < V.heap.size := by omega
    have s1 : w.heap.size + 1 < V.heap.size := by omega
    have c1 : V.cell? ⟨g, 0, none⟩ = some (.int .i64 L) := by subst hV; subst hg; simp
    have c2 : V.cell? ⟨g, 1, none⟩ = some (.int .i64 E) := by subst hV; subst hg; simp
    have c3 : V.cell? ⟨g, 2, none⟩ = some (.int .i64 M) := by subst hV; subst hg; simp
    have c4 : V.cell? ⟨w.heap.size + 1, 0, none⟩ = some (.int .i64 n) := by subst hV; simp [go_sem, kc1, kz1]
    have c5 : V.cell? ⟨w.heap.size + 1, 1, none⟩ = some (.int .i64 d) := by subst hV; simp [go_sem, kc1, kz1]
    have c6 : V.cell? ⟨w.heap.size + 1 + 1, 0, none⟩ = some (.int .i64 p) := by subst hV; simp [go_sem, kc1, kz1]
    have c7 : V.cell? ⟨w.heap.size + 1 + 1, 1, none⟩ = some (.int .i64 q) := by subst hV; simp [go_sem, kc1, kz1]
    have r1 : V.cell? ⟨w.heap.size + 1 + 1 + 1, 0, none⟩ = some (.int .i64 0) := by subst hV; simp [go_sem, kc1, kz1]
    have r2 : V.cell? ⟨w.heap.size + 1 + 1 + 1, 1, none⟩ = some (.int .i64 0) := by subst hV; simp [go_sem, kc1, kz1]
    have r3 : V.frozen? ⟨w.heap.size + 1 + 1 + 1, 0, none⟩ = false := by subst hV; simp [go_sem, kf1, kz1]
    have r4 : V.frozen? ⟨w.heap.size + 1 + 1 + 1, 1, none⟩ = false := by subst hV; simp [go_sem, kf1, kz1]
    clear hg hV hb1 ha1 kc1 kf1 kz1 ky1 kx1 kv1 ku1 C0
    go_region_held3 (fun w' => Below V.heap.size V w' ∧ w'.cell? ⟨g, 0, none⟩ = some (.int .i64 L) ∧ w'.cell? ⟨g, 1, none⟩ = some (.int .i64 E) ∧ w'.cell? ⟨g, 2, none⟩ = some (.int .i64 M) ∧ w'.cell? ⟨w.heap.size + 1, 0, none⟩ = some (.int .i64 n) ∧ w'.cell? ⟨w.heap.size + 1, 1, none⟩ = some (.int .i64 d) ∧ w'.cell? ⟨w.heap.size + 1 + 1, 0, none⟩ = some (.int .i64 p) ∧ w'.cell? ⟨w.heap.size + 1 + 1, 1, none⟩ = some (.int .i64 q)) (((go_split_ands; (repeat' with_reducible apply And.intro) <;> first | assumption | exact Below.refl _ _ | exact bdrew (Below.refl _ _) | exact bdrew (by assumption) | (simp [go_sem]; done) | go_keep))) (first | (go_at_call 91; refine (C1.out _).mono ?_; rintro e w1 ⟨rfl, hb⟩; go_split_ands; (have f0 := bstep (by assumption : Below V.heap.size V _) hb); (have f1 := keepa f0 sg c1); (have f2 := keepa f0 sg c2); (have f3 := keepa f0 sg c3); (have f4 := keepa f0 s1 c4); (have f5 := keepa f0 s1 c5); (have f6 := keepa f0 s2 c6); (have f7 := keepa f0 s2 c7)) | (go_at_call 96; refine (C2.out _).mono ?_; rintro e w1 ⟨rfl, hb⟩; go_split_ands; (have f0 := bstep (by assumption : Below V.heap.size V _) hb); (have f1 := keepa f0 sg c1); (have f2 := keepa f0 sg c2); (have f3 := keepa f0 sg c3); (have f4 := keepa f0 s1 c4); (have f5 := keepa f0 s1 c5); (have f6 := keepa f0 s2 c6); (have f7 := keepa f0 s2 c7)))
    all_goals go_wp2_with fail
    all_goals go_region_held3 (fun w' => Below V.heap.size V w' ∧ w'.cell? ⟨g, 0, none⟩ = some (.int .i64 L) ∧ w'.cell? ⟨g, 1, none⟩ = some (.int .i64 E) ∧ w'.cell? ⟨g, 2, none⟩ = some (.int .i64 M) ∧ w'.cell? ⟨w.heap.size + 1, 0, none⟩ = some (.int .i64 n) ∧ w'.cell? ⟨w.heap.size + 1, 1, none⟩ = some (.int .i64 d) ∧ w'.cell? ⟨w.heap.size + 1 + 1, 0, none⟩ = some (.int .i64 p) ∧ w'.cell? ⟨w.heap.size + 1 + 1, 1, none⟩ = some (.int .i64 q)) (((go_split_ands; (repeat' with_reducible apply And.intro) <;> first | assumption | exact Below.refl _ _ | exact bdrew (Below.refl _ _) | exact bdrew (by assumption) | (simp [go_sem]; done) | go_keep))) (first | (go_at_call 91; refine (C3.out _).mono ?_; rintro e w1 ⟨rfl, hb⟩; go_split_ands; (have f0 := bstep (by assumption : Below V.heap.size V _) hb); (have f1 := keepa f0 sg c1); (have f2 := keepa f0 sg c2); (have f3 := keepa f0 sg c3); (have f4 := keepa f0 s1 c4); (have f5 := keepa f0 s1 c5); (have f6 := keepa f0 s2 c6); (have f7 := keepa f0 s2 c7)) | (go_at_call 96; refine (C4.out _).mono ?_; rintro e w1 ⟨rfl, hb⟩; go_split_ands; (have f0 := bstep (by assumption : Below V.heap.size V _) hb); (have f1 := keepa f0 sg c1); (have f2 := keepa f0 sg c2); (have f3 := keepa f0 sg c3); (have f4 := keepa f0 s1 c4); (have f5 := keepa f0 s1 c5); (have f6 := keepa f0 s2 c6); (have f7 := keepa f0 s2 c7)))
    all_goals go_wp2_with fail
    all_goals refine (C5'.out _).mono ?_
    all_goals rintro e w5 ⟨rfl, hb5⟩
    all_goals have bV5 : Below V.heap.size V w5 := bstep (by assumption) hb5
    all_goals have q1 := keepa bV5 s3 r1
    all_goals have q2 := keepa bV5 s3 r2
    all_goals have q3 := keepz bV5 s3 r3
    all_goals have q4 := keepz bV5 s3 r4
    all_goals have z5 : w.heap.size + 1 + 1 + 1 < w5.heap.size := Nat.lt_of_lt_of_le s3 bV5.size
    all_goals have bw5 : Below w.heap.size w w5 := bstep bV bV5
    all_goals clear bV5
    all_goals go_wp2
    all_goals refine bodyPost_ret (v := .tuple #[.agg #[.int .i64 (lowN (X) (ME)), .int .i64 (lowD (X) (ME))], .bool (lowB (X) (ME))]) (by simp only [results, Try.results85]; go_simp) rfl ⟨rfl, ?_⟩
    all_goals (repeat (first | with_reducible exact Below.refl _ _ | with_reducible assumption | with_reducible refine balloc ?_ _ | with_reducible refine bdrew ?_ | with_reducible refine below_drewN ?_ _ | with_reducible refine bset ?_ ?_ _ | with_reducible exact Nat.le_refl _ | with_reducible refine bsize ?_ | (dsimp only; refine Nat.le_trans ?_ (Nat.le_add_right _ _)) | with_reducible refine Nat.le_trans ?_ (Nat.le_add_right _ _) | (with_reducible refine bstep ?_ (by assumption))))
end Go.Proofs.Ytgpbkjakmbmccaa
