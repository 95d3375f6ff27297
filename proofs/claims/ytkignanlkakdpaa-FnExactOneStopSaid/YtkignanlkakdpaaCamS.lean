/- Camels: OneStop of the program. -/
import Derived.Test.YtkignanlkakdpaaCamK
import Derived.Test.YtkignanlkakdpaaCamO
namespace Go.Proofs.Ytkignanlkakdpaa
open Go.ChangeShapes Go.WideShapes Go.ChangeAt Go.RowKit Go.Joins
set_option maxRecDepth 100000
set_option linter.unusedVariables false
set_option linter.unusedSimpArgs false

def osK (L E n d p q r s : Int) : Bool := ((askB L E n d && plB p q) && plB r s) && decide (p * s ≤ r * q)
def osX (L E n d p q r s : Int) : Int := osB L E n d p q r s
def osM (L E n d p q r s : Int) : Int := d * q * s
theorem brought_m (L E M l x y z : Int) (hl : L * M = l) (h1 : 1 ≤ l) (h2 : l ≤ 1000000000000000000) (h3 : x ≤ 6 * l) (h4 : -4000000000000000000 ≤ x) (h5 : 0 ≤ y) (h6 : y ≤ 200000000000000000) (hz : x - y * (2 * (trp l x : Int) - 1) = z) (h7 : -9000000000000000000 ≤ z) (w : World) :
    Calls Try.prog 111 #[.agg #[.int .i64 L, .int .i64 E, .int .i64 M], .int .i64 x, .int .i64 y] w fun e w' => e = .returned (.int .i64 z) ∧ Below w.heap.size w w' := by
  have HD := Lib.hid (fun W => drives_m L E M l x hl h1 h2 h3 h4 W)
  have hb := trp_bd l x
  obtain ⟨D, hD⟩ : ∃ D, 2 * (trp l x : Int) - 1 = D := ⟨_, rfl⟩
  rw [hD] at HD hz
  have hD1 : 1 ≤ D := by omega
  have hD2 : D ≤ 13 := by omega
  have m := mul_le2 y D 200000000000000000 13 h5 h6 (by omega) hD2
  obtain ⟨m1, m2⟩ := m
  clear hD hb
  have h8 : x ≤ 6000000000000000000 := by omega
  clear hl h1 h2 h3
  subst hz
  go_enter Try.func111, Try.ntmps111
  (go_wp2_with fail; refine (HD.out _).mono ?_; rintro e w1 ⟨rfl, hb1⟩; have ha1 := hb1; obtain ⟨kc1, kf1, kz1, ky1, kx1, kv1, ku1⟩ := bcell hb1)
  go_wp2
  go_ret
  refine ⟨rfl, ?_⟩
  (repeat (first | with_reducible exact Below.refl _ _ | with_reducible assumption | with_reducible refine balloc ?_ _ | with_reducible refine bdrew ?_ | with_reducible refine below_drewN ?_ _ | with_reducible refine bset ?_ ?_ _ | with_reducible exact Nat.le_refl _ | with_reducible refine bsize ?_ | (dsimp only; refine Nat.le_trans ?_ (Nat.le_add_right _ _)) | with_reducible refine Nat.le_trans ?_ (Nat.le_add_right _ _) | (with_reducible refine bstep ?_ (by assumption))))
/-- The variables of oneStop: goods, stop, way, the measure, the result. -/
structure OsSt (w W : World) (L E M n d p q r s : Int) : Prop where
  g0 : W.cell? ⟨w.heap.size + 1, 0, none⟩ = some (.int .i64 n)
  g1 : W.cell? ⟨w.heap.size + 1, 1, none⟩ = some (.int .i64 d)
  p0 : W.cell? ⟨w.heap.size + 1 + 1, 0, none⟩ = some (.int .i64 p)
  p1 : W.cell? ⟨w.heap.size + 1 + 1, 1, none⟩ = some (.int .i64 q)
  s0 : W.cell? ⟨w.heap.size + 1 + 1 + 1, 0, none⟩ = some (.int .i64 r)
  s1 : W.cell? ⟨w.heap.size + 1 + 1 + 1, 1, none⟩ = some (.int .i64 s)
  m0 : W.cell? ⟨w.heap.size + 1 + 1 + 1 + 1 + 1, 0, none⟩ = some (.int .i64 L)
  m1 : W.cell? ⟨w.heap.size + 1 + 1 + 1 + 1 + 1, 1, none⟩ = some (.int .i64 E)
  m2 : W.cell? ⟨w.heap.size + 1 + 1 + 1 + 1 + 1, 2, none⟩ = some (.int .i64 M)
  res : HasRes (w.heap.size + 1 + 1 + 1 + 1) W
  hs : w.heap.size + 1 + 1 + 1 + 1 + 1 < W.heap.size
  bel : Below w.heap.size w W
theorem OsSt.later {w W W' : World} {L E M n d p q r s : Int} (H : OsSt w W L E M n d p q r s) (hb : Below W.heap.size W W') : OsSt w W' L E M n d p q r s := by
  obtain ⟨g0, g1, p0, p1, s0, s1, m0, m1, m2, res, hs, bel⟩ := H
  exact ⟨keepa hb (by omega) g0, keepa hb (by omega) g1, keepa hb (by omega) p0, keepa hb (by omega) p1, keepa hb (by omega) s0, keepa hb (by omega) s1, keepa hb hs m0, keepa hb hs m1, keepa hb hs m2, res.later hb, Nat.lt_of_lt_of_le hs hb.size, bstep bel hb⟩
theorem OsSt.drew {w W : World} {L E M n d p q r s : Int} (H : OsSt w W L E M n d p q r s) : OsSt w W.drew L E M n d p q r s := H.later (bdrew (Below.refl _ _))
theorem OsSt.set {w W : World} {L E M n d p q r s : Int} (H : OsSt w W L E M n d p q r s) (u v : Value) : OsSt w ((W.setCell ⟨w.heap.size + 1 + 1 + 1 + 1, 0, none⟩ u).setCell ⟨w.heap.size + 1 + 1 + 1 + 1, 1, none⟩ v) L E M n d p q r s := by
  obtain ⟨g0, g1, p0, p1, s0, s1, m0, m1, m2, res, hs, bel⟩ := H
  exact ⟨by simp [go_sem, g0], by simp [go_sem, g1], by simp [go_sem, p0], by simp [go_sem, p1], by simp [go_sem, s0], by simp [go_sem, s1], by simp [go_sem, m0], by simp [go_sem, m1], by simp [go_sem, m2], (res.set 0 _ (by omega)).set 1 _ (by omega), by simpa using hs, bset (bset bel (by simp; omega) _) (by simp; omega) _⟩
structure OsB (L E n d p q r s M l x yb yw A B : Int) : Prop where
  eM : M = d * (q * s)
  eM1 : M = q * (d * s)
  eM2 : M = s * (d * q)
  el : L * M = l
  M1 : 1 ≤ M
  M2 : M ≤ 12000000000000
  dq0 : 1 ≤ d * q
  dq1 : d * q ≤ 12000000
  l1 : 1 ≤ l
  l2 : l ≤ 144000000000000
  x0 : 0 ≤ x
  x1 : x ≤ 864000000000000
  x6 : x ≤ 6 * l
  y0 : 0 ≤ yb
  y1 : yb ≤ 144000000000000000
  z0 : 0 ≤ yw
  z1 : yw ≤ 144000000000000000
  u0 : 0 ≤ d * s * p
  u1 : d * s * p ≤ 12000000000000000
  v0 : 0 ≤ d * q * r
  v1 : d * q * r ≤ 12000000000000000
  a0 : -1872000000000000000 ≤ A
  a1 : A ≤ x
  b0 : yb ≤ yw → -3744000000000000000 ≤ B
  b1 : yb ≤ yw → B ≤ A
theorem os_b (L E n d p q r s : Int) (hL : 1 ≤ L) (hL2 : L ≤ 12) (hE : 1 ≤ E) (hE2 : E ≤ 12) (hn : 0 ≤ n) (hd : 1 ≤ d) (hd2 : d ≤ 12) (hn6 : n ≤ 6 * L * d) (hp : 0 ≤ p) (hp2 : p ≤ 1000000000) (hq : 1 ≤ q) (hq2 : q ≤ 1000000) (hr : 0 ≤ r) (hr2 : r ≤ 1000000000) (hs : 1 ≤ s) (hs2 : s ≤ 1000000) : OsB L E n d p q r s (d * q * s) (L * (d * q * s)) (q * s * n) (d * s * p * E) (d * q * r * E) (osA L E n d p q s) (osB L E n d p q r s) := by
  have c1 := mul_le2 d q 12 1000000 (by omega) hd2 (by omega) hq2
  have c1' := Int.mul_pos (show 0 < d by omega) (show 0 < q by omega)
  have c2 := mul_le2 (d * q) s 12000000 1000000 (by omega) (by omega) (by omega) hs2
  have c2' := Int.mul_pos c1' (show 0 < s by omega)
  have c3 := mul_le2 L (d * q * s) 12 12000000000000 (by omega) hL2 (by omega) (by omega)
  have c3' := Int.mul_pos (show 0 < L by omega) c2'
  have c4 := mul_le2 q s 1000000 1000000 (by omega) hq2 (by omega) hs2
  have e6 : 6 * L * d = 6 * (L * d) := Int.mul_assoc _ _ _
  have c5 := mul_le2 L d 12 12 (by omega) hL2 (by omega) hd2
  have c6 := mul_le2 (q * s) n 1000000000000 864 c4.1 (by omega) hn (by omega)
  have c7 := mul_le2 d s 12 1000000 (by omega) hd2 (by omega) hs2
  have c8 := mul_le2 (d * s) p 12000000 1000000000 c7.1 (by omega) hp hp2
  have c9 := mul_le2 (d * s * p) E 12000000000000000 12 c8.1 (by omega) (by omega) hE2
  have d8 := mul_le2 (d * q) r 12000000 1000000000 (by omega) (by omega) hr hr2
  have d9 := mul_le2 (d * q * r) E 12000000000000000 12 d8.1 (by omega) (by omega) hE2
  have x6 : q * s * n ≤ 6 * (L * (d * q * s)) := by
    have h1 := Int.mul_le_mul_of_nonneg_left hn6 c4.1
    have h2 : q * s * (6 * L * d) = 6 * (L * (d * q * s)) := by ac_rfl
    omega
  have t1 := trp_bd (L * (d * q * s)) (q * s * n)
  have t2 := trp_bd (L * (d * q * s)) (osA L E n d p q s)
  have k1 := mul_le2 (d * s * p * E) (2 * (trp (L * (d * q * s)) (q * s * n) : Int) - 1) 144000000000000000 13 c9.1 (by omega) (by omega) (by omega)
  have hA : osA L E n d p q s = q * s * n - d * s * p * E * (2 * (trp (L * (d * q * s)) (q * s * n) : Int) - 1) := rfl
  have hB : osB L E n d p q r s = osA L E n d p q s - (d * q * r * E - d * s * p * E) * (2 * (trp (L * (d * q * s)) (osA L E n d p q s) : Int) - 1) := rfl
  refine ⟨Int.mul_assoc _ _ _, by ac_rfl, by ac_rfl, rfl, by omega, by omega, by omega, by omega, by omega, by omega, c6.1, by omega, x6, c9.1, by omega, d9.1, by omega, c8.1, by omega, d8.1, by omega, by omega, by omega, fun h => ?_, fun h => ?_⟩
  · have k2 := mul_le2 (d * q * r * E - d * s * p * E) (2 * (trp (L * (d * q * s)) (osA L E n d p q s) : Int) - 1) 144000000000000000 13 (by omega) (by omega) (by omega) (by omega)
    omega
  · have k2 := mul_le2 (d * q * r * E - d * s * p * E) (2 * (trp (L * (d * q * s)) (osA L E n d p q s) : Int) - 1) 144000000000000000 13 (by omega) (by omega) (by omega) (by omega)
    omega
set_option maxHeartbeats 3200000 in
theorem oneStop_m (L E n d p q r s : Int) (hL : 1 ≤ L) (hL2 : L ≤ 12) (hE : 1 ≤ E) (hE2 : E ≤ 12) (hn : 0 ≤ n) (hd : 1 ≤ d) (hd2 : d ≤ 12) (hn6 : n ≤ 6 * L * d) (hp : 0 ≤ p) (hp2 : p ≤ 1000000000) (hq : 1 ≤ q) (hq2 : q ≤ 1000000) (hr : 0 ≤ r) (hr2 : r ≤ 1000000000) (hs : 1 ≤ s) (hs2 : s ≤ 1000000) (w : World) :
    Calls Try.prog 83 #[.agg #[.int .i64 L, .int .i64 E], .agg #[.int .i64 n, .int .i64 d], .agg #[.int .i64 p, .int .i64 q], .agg #[.int .i64 r, .int .i64 s]] w fun e w' => e = .returned (.tuple #[.agg #[.int .i64 (twoN (decide (d * s * p * E ≤ d * q * r * E)) (osB L E n d p q r s) (d * q * s)), .int .i64 (twoD (decide (d * s * p * E ≤ d * q * r * E)) (osB L E n d p q r s) (d * q * s))], .bool (twoB (decide (d * s * p * E ≤ d * q * r * E)) (osB L E n d p q r s) (d * q * s))]) ∧ Below w.heap.size w w' := by
  have B := os_b L E n d p q r s hL hL2 hE hE2 hn hd hd2 hn6 hp hp2 hq hq2 hr hr2 hs hs2
  have hA : q * s * n - d * s * p * E * (2 * (trp (L * (d * q * s)) (q * s * n) : Int) - 1) = osA L E n d p q s := rfl
  have hB : osA L E n d p q s - (d * q * r * E - d * s * p * E) * (2 * (trp (L * (d * q * s)) (osA L E n d p q s) : Int) - 1) = osB L E n d p q r s := rfl
  have C1 := Lib.hid (fun W => paces_impl L E (d * q * s) p q (d * s) B.eM1 hq (Int.mul_nonneg (by omega) (by omega)) (by have := B.M2; omega) B.u0 (by have := B.u1; omega) B.y0 (by have := B.y1; omega) W)
  have C2 := Lib.hid (fun W => paces_impl L E (d * q * s) r s (d * q) B.eM2 hs (by have := B.dq0; omega) (by have := B.M2; omega) B.v0 (by have := B.v1; omega) B.z0 (by have := B.z1; omega) W)
  have C3 := Lib.hid (fun W => crumbs_impl L E (d * q * s) n d (q * s) B.eM hd (Int.mul_nonneg (by omega) (by omega)) (by have := B.M2; omega) B.x0 (by have := B.x1; omega) W)
  have C4 := Lib.hid (fun W => brought_m L E (d * q * s) (L * (d * q * s)) (q * s * n) (d * s * p * E) (osA L E n d p q s) B.el B.l1 (by have := B.l2; omega) B.x6 (by have := B.x0; omega) B.y0 (by have := B.y1; omega) hA (by have := B.a0; omega) W)
  have C5 := Lib.hid (fun (hh : d * s * p * E ≤ d * q * r * E) W => brought_m L E (d * q * s) (L * (d * q * s)) (osA L E n d p q s) (d * q * r * E - d * s * p * E) (osB L E n d p q r s) B.el B.l1 (by have := B.l2; omega) (by have := B.x6; have := B.a1; omega) (by have := B.a0; omega) (by omega) (by have := B.z1; have := B.y0; omega) hB (by have := B.b0 hh; omega) W)
  have C6 := Lib.hid (fun (hh : d * s * p * E ≤ d * q * r * E) W => goods_impl L E (d * q * s) (osB L E n d p q r s) (by have := B.b1 hh; have := B.a1; have := B.x1; omega) (by have := B.M2; omega) W)
  obtain ⟨-, -, -, -, M1, M2, dq0, dq1, -, -, x0, x1, -, y0, y1, z0, z1, -, -, -, -, a0, a1, -, -⟩ := B
  clear hA hB
  have wM : IntKind.i64.wrap (d * q * s) = d * q * s := IntWalk.i64_in _ (by omega)
  have wd : IntKind.i64.wrap (d * q) = d * q := IntWalk.i64_in _ (by omega)
  by_cases hc : d * s * p * E ≤ d * q * r * E
  · rw [decide_eq_true hc, (two_yes _ _).1, (two_yes _ _).2.1, (two_yes _ _).2.2]
    have C5' := Lib.hid (C5.out hc)
    have C6' := Lib.hid (C6.out hc)
    clear C5 C6
    generalize hM : d * q * s = M at *
    have HM := Lib.hid hM
    clear hM
    generalize osB L E n d p q r s = Bz at *
    generalize osA L E n d p q s = Az at *
    generalize d * s * p * E = yb at *
    generalize d * q * r * E = yw at *
    generalize q * s * n = x at *
    have hyw : 0 ≤ yw - yb := by omega
    have wq1 : IntKind.i64.wrap (yw - yb) = yw - yb := IntWalk.i64_in _ (by omega)
    have wM' : IntKind.i64.wrap (d * q * s) = M := by rw [HM.out]; exact wM
    clear wM
    go_enter Try.func83, Try.ntmps83
    go_upto_region 2 with fail
    change Code.wp _ _ _ _ ((((((w.alloc (.cells #[.int .i64 L, .int .i64 E] 25)).alloc (.cells #[.int .i64 n, .int .i64 d] 32)).alloc (.cells #[.int .i64 p, .int .i64 q] 32)).alloc (.cells #[.int .i64 r, .int .i64 s] 32)).alloc (.cells #[.int .i64 0, .int .i64 0] 32)).alloc (.cells #[.int .i64 L, .int .i64 E, .int .i64 M] 76))
    have hO : OsSt w ((((((w.alloc (.cells #[.int .i64 L, .int .i64 E] 25)).alloc (.cells #[.int .i64 n, .int .i64 d] 32)).alloc (.cells #[.int .i64 p, .int .i64 q] 32)).alloc (.cells #[.int .i64 r, .int .i64 s] 32)).alloc (.cells #[.int .i64 0, .int .i64 0] 32)).alloc (.cells #[.int .i64 L, .int .i64 E, .int .i64 M] 76)) L E M n d p q r s :=
      ⟨by simp [go_sem], by simp [go_sem], by simp [go_sem], by simp [go_sem], by simp [go_sem], by simp [go_sem], by simp [go_sem], by simp [go_sem], by simp [go_sem], ⟨.int .i64 0, .int .i64 0, by simp [go_sem], by simp [go_sem], by simp [go_sem], by simp [go_sem], by simp⟩, by simp, by (repeat (first | with_reducible exact Below.refl _ _ | with_reducible assumption | with_reducible refine balloc ?_ _ | with_reducible refine bdrew ?_ | with_reducible refine below_drewN ?_ _ | with_reducible refine bset ?_ ?_ _ | with_reducible exact Nat.le_refl _ | with_reducible refine bsize ?_ | (dsimp only; refine Nat.le_trans ?_ (Nat.le_add_right _ _)) | with_reducible refine Nat.le_trans ?_ (Nat.le_add_right _ _) | (with_reducible refine bstep ?_ (by assumption))))⟩
    clear wM' wd
    generalize ((((((w.alloc (.cells #[.int .i64 L, .int .i64 E] 25)).alloc (.cells #[.int .i64 n, .int .i64 d] 32)).alloc (.cells #[.int .i64 p, .int .i64 q] 32)).alloc (.cells #[.int .i64 r, .int .i64 s] 32)).alloc (.cells #[.int .i64 0, .int .i64 0] 32)).alloc (.cells #[.int .i64 L, .int .i64 E, .int .i64 M] 76)) = V at *
    have hOo := hO
    obtain ⟨ca1, ca2, ca3, ca4, ca5, ca6, ca7, ca8, ca9, car, cah, cab⟩ := hOo
    go_wp2_with fail
    refine (C1.out _).mono ?_
    rintro e w1 ⟨rfl, hb1⟩
    have hO1 := hO.later (bstep (by (repeat (first | with_reducible exact Below.refl _ _ | with_reducible assumption | with_reducible refine balloc ?_ _ | with_reducible refine bdrew ?_ | with_reducible refine below_drewN ?_ _ | with_reducible refine bset ?_ ?_ _ | with_reducible exact Nat.le_refl _ | with_reducible refine bsize ?_ | (dsimp only; refine Nat.le_trans ?_ (Nat.le_add_right _ _)) | with_reducible refine Nat.le_trans ?_ (Nat.le_add_right _ _) | (with_reducible refine bstep ?_ (by assumption))))) hb1)
    clear hb1 hO ca1 ca2 ca3 ca4 ca5 ca6 ca7 ca8 ca9 car cah cab
    have hOo := hO1
    obtain ⟨cz1, cz2, cz3, cz4, cz5, cz6, cz7, cz8, cz9, czr, czh, czb⟩ := hOo
    go_wp2_with fail
    refine (C2.out _).mono ?_
    rintro e w2 ⟨rfl, hb2⟩
    have hO2 := hO1.later (bstep (by (repeat (first | with_reducible exact Below.refl _ _ | with_reducible assumption | with_reducible refine balloc ?_ _ | with_reducible refine bdrew ?_ | with_reducible refine below_drewN ?_ _ | with_reducible refine bset ?_ ?_ _ | with_reducible exact Nat.le_refl _ | with_reducible refine bsize ?_ | (dsimp only; refine Nat.le_trans ?_ (Nat.le_add_right _ _)) | with_reducible refine Nat.le_trans ?_ (Nat.le_add_right _ _) | (with_reducible refine bstep ?_ (by assumption))))) hb2)
    clear hb2 hO1
    clear cz1 cz2 cz3 cz4 cz5 cz6 cz7 cz8 cz9 czr czh czb
    have hOo := hO2
    obtain ⟨ck1, ck2, ck3, ck4, ck5, ck6, ck7, ck8, ck9, ckr, ckh, ckb⟩ := hOo
    go_upto_region 6 with fail
    have hS := Lib.hid (fun (W : World) (h : OsSt w W L E M n d p q r s) => (⟨h.g0, h.g1, h.m0, h.m1, h.m2⟩ : W.cell? ⟨w.heap.size + 1, 0, none⟩ = some (.int .i64 n) ∧ W.cell? ⟨w.heap.size + 1, 1, none⟩ = some (.int .i64 d) ∧ W.cell? ⟨w.heap.size + 1 + 1 + 1 + 1 + 1, 0, none⟩ = some (.int .i64 L) ∧ W.cell? ⟨w.heap.size + 1 + 1 + 1 + 1 + 1, 1, none⟩ = some (.int .i64 E) ∧ W.cell? ⟨w.heap.size + 1 + 1 + 1 + 1 + 1, 2, none⟩ = some (.int .i64 M)))
    go_region_held3 (fun W => W.cell? ⟨w.heap.size + 1, 0, none⟩ = some (.int .i64 n) ∧ W.cell? ⟨w.heap.size + 1, 1, none⟩ = some (.int .i64 d) ∧ W.cell? ⟨w.heap.size + 1 + 1 + 1 + 1 + 1, 0, none⟩ = some (.int .i64 L) ∧ W.cell? ⟨w.heap.size + 1 + 1 + 1 + 1 + 1, 1, none⟩ = some (.int .i64 E) ∧ W.cell? ⟨w.heap.size + 1 + 1 + 1 + 1 + 1, 2, none⟩ = some (.int .i64 M))
      ((refine hS.out _ ?_; first | with_reducible assumption | with_reducible exact OsSt.drew (by with_reducible assumption) | with_reducible exact OsSt.set (by with_reducible assumption) _ _ | with_reducible exact OsSt.drew (OsSt.set (by with_reducible assumption) _ _)))
      (first | (go_at_call 68; refine (C3.out _).mono ?_; rintro e w3 ⟨rfl, hb3⟩; (have hO3 := hO2.later (bstep (by (repeat (first | with_reducible exact Below.refl _ _ | with_reducible assumption | with_reducible refine balloc ?_ _ | with_reducible refine bdrew ?_ | with_reducible refine below_drewN ?_ _ | with_reducible refine bset ?_ ?_ _ | with_reducible exact Nat.le_refl _ | with_reducible refine bsize ?_ | (dsimp only; refine Nat.le_trans ?_ (Nat.le_add_right _ _)) | with_reducible refine Nat.le_trans ?_ (Nat.le_add_right _ _) | (with_reducible refine bstep ?_ (by assumption))))) hb3))) | (go_at_call 107; refine (C6'.out _).mono ?_; rintro e w6 ⟨rfl, hb6⟩; (have hO6 := hO5.later (bstep (by (repeat (first | with_reducible exact Below.refl _ _ | with_reducible assumption | with_reducible refine balloc ?_ _ | with_reducible refine bdrew ?_ | with_reducible refine below_drewN ?_ _ | with_reducible refine bset ?_ ?_ _ | with_reducible exact Nat.le_refl _ | with_reducible refine bsize ?_ | (dsimp only; refine Nat.le_trans ?_ (Nat.le_add_right _ _)) | with_reducible refine Nat.le_trans ?_ (Nat.le_add_right _ _) | (with_reducible refine bstep ?_ (by assumption))))) hb6)); (obtain ⟨rx, ry, q1, q2, q3, q4, q5⟩ := hO6.res)) | (go_at_call 111; with_reducible refine (C4.out _).mono ?_; rintro e w4 ⟨rfl, hb4⟩; (have hO4 := hO3.later (bstep (by (repeat (first | with_reducible exact Below.refl _ _ | with_reducible assumption | with_reducible refine balloc ?_ _ | with_reducible refine bdrew ?_ | with_reducible refine below_drewN ?_ _ | with_reducible refine bset ?_ ?_ _ | with_reducible exact Nat.le_refl _ | with_reducible refine bsize ?_ | (dsimp only; refine Nat.le_trans ?_ (Nat.le_add_right _ _)) | with_reducible refine Nat.le_trans ?_ (Nat.le_add_right _ _) | (with_reducible refine bstep ?_ (by assumption))))) hb4))) | (go_at_call 111; with_reducible refine (C5'.out _).mono ?_; rintro e w5 ⟨rfl, hb5⟩; (have hO5 := hO4.later (bstep (by (repeat (first | with_reducible exact Below.refl _ _ | with_reducible assumption | with_reducible refine balloc ?_ _ | with_reducible refine bdrew ?_ | with_reducible refine below_drewN ?_ _ | with_reducible refine bset ?_ ?_ _ | with_reducible exact Nat.le_refl _ | with_reducible refine bsize ?_ | (dsimp only; refine Nat.le_trans ?_ (Nat.le_add_right _ _)) | with_reducible refine Nat.le_trans ?_ (Nat.le_add_right _ _) | (with_reducible refine bstep ?_ (by assumption))))) hb5))))
    all_goals go_wp2
    all_goals refine bodyPost_ret (v := .tuple #[.agg #[.int .i64 (lowN Bz M), .int .i64 (lowD Bz M)], .bool (lowB Bz M)]) (by simp only [results, Try.results83]; go_simp) rfl ⟨rfl, ?_⟩
    all_goals exact (OsSt.set hO6 _ _).bel
  · rw [decide_eq_false hc, (two_no _ _).1, (two_no _ _).2.1, (two_no _ _).2.2]
    clear C5 C6
    generalize hM : d * q * s = M at *
    have HM := Lib.hid hM
    clear hM
    generalize osB L E n d p q r s = Bz at *
    generalize osA L E n d p q s = Az at *
    generalize d * s * p * E = yb at *
    generalize d * q * r * E = yw at *
    generalize q * s * n = x at *
    have hyw : yw - yb < 0 := by omega
    have wq1 : IntKind.i64.wrap (yw - yb) = yw - yb := IntWalk.i64_in _ (by omega)
    have wM' : IntKind.i64.wrap (d * q * s) = M := by rw [HM.out]; exact wM
    clear wM
    go_enter Try.func83, Try.ntmps83
    go_upto_region 2 with fail
    change Code.wp _ _ _ _ ((((((w.alloc (.cells #[.int .i64 L, .int .i64 E] 25)).alloc (.cells #[.int .i64 n, .int .i64 d] 32)).alloc (.cells #[.int .i64 p, .int .i64 q] 32)).alloc (.cells #[.int .i64 r, .int .i64 s] 32)).alloc (.cells #[.int .i64 0, .int .i64 0] 32)).alloc (.cells #[.int .i64 L, .int .i64 E, .int .i64 M] 76))
    have hO : OsSt w ((((((w.alloc (.cells #[.int .i64 L, .int .i64 E] 25)).alloc (.cells #[.int .i64 n, .int .i64 d] 32)).alloc (.cells #[.int .i64 p, .int .i64 q] 32)).alloc (.cells #[.int .i64 r, .int .i64 s] 32)).alloc (.cells #[.int .i64 0, .int .i64 0] 32)).alloc (.cells #[.int .i64 L, .int .i64 E, .int .i64 M] 76)) L E M n d p q r s :=
      ⟨by simp [go_sem], by simp [go_sem], by simp [go_sem], by simp [go_sem], by simp [go_sem], by simp [go_sem], by simp [go_sem], by simp [go_sem], by simp [go_sem], ⟨.int .i64 0, .int .i64 0, by simp [go_sem], by simp [go_sem], by simp [go_sem], by simp [go_sem], by simp⟩, by simp, by (repeat (first | with_reducible exact Below.refl _ _ | with_reducible assumption | with_reducible refine balloc ?_ _ | with_reducible refine bdrew ?_ | with_reducible refine below_drewN ?_ _ | with_reducible refine bset ?_ ?_ _ | with_reducible exact Nat.le_refl _ | with_reducible refine bsize ?_ | (dsimp only; refine Nat.le_trans ?_ (Nat.le_add_right _ _)) | with_reducible refine Nat.le_trans ?_ (Nat.le_add_right _ _) | (with_reducible refine bstep ?_ (by assumption))))⟩
    clear wM' wd
    generalize ((((((w.alloc (.cells #[.int .i64 L, .int .i64 E] 25)).alloc (.cells #[.int .i64 n, .int .i64 d] 32)).alloc (.cells #[.int .i64 p, .int .i64 q] 32)).alloc (.cells #[.int .i64 r, .int .i64 s] 32)).alloc (.cells #[.int .i64 0, .int .i64 0] 32)).alloc (.cells #[.int .i64 L, .int .i64 E, .int .i64 M] 76)) = V at *
    have hOo := hO
    obtain ⟨ca1, ca2, ca3, ca4, ca5, ca6, ca7, ca8, ca9, car, cah, cab⟩ := hOo
    go_wp2_with fail
    refine (C1.out _).mono ?_
    rintro e w1 ⟨rfl, hb1⟩
    have hO1 := hO.later (bstep (by (repeat (first | with_reducible exact Below.refl _ _ | with_reducible assumption | with_reducible refine balloc ?_ _ | with_reducible refine bdrew ?_ | with_reducible refine below_drewN ?_ _ | with_reducible refine bset ?_ ?_ _ | with_reducible exact Nat.le_refl _ | with_reducible refine bsize ?_ | (dsimp only; refine Nat.le_trans ?_ (Nat.le_add_right _ _)) | with_reducible refine Nat.le_trans ?_ (Nat.le_add_right _ _) | (with_reducible refine bstep ?_ (by assumption))))) hb1)
    clear hb1 hO ca1 ca2 ca3 ca4 ca5 ca6 ca7 ca8 ca9 car cah cab
    have hOo := hO1
    obtain ⟨cz1, cz2, cz3, cz4, cz5, cz6, cz7, cz8, cz9, czr, czh, czb⟩ := hOo
    go_wp2_with fail
    refine (C2.out _).mono ?_
    rintro e w2 ⟨rfl, hb2⟩
    have hO2 := hO1.later (bstep (by (repeat (first | with_reducible exact Below.refl _ _ | with_reducible assumption | with_reducible refine balloc ?_ _ | with_reducible refine bdrew ?_ | with_reducible refine below_drewN ?_ _ | with_reducible refine bset ?_ ?_ _ | with_reducible exact Nat.le_refl _ | with_reducible refine bsize ?_ | (dsimp only; refine Nat.le_trans ?_ (Nat.le_add_right _ _)) | with_reducible refine Nat.le_trans ?_ (Nat.le_add_right _ _) | (with_reducible refine bstep ?_ (by assumption))))) hb2)
    clear hb2 hO1
    clear cz1 cz2 cz3 cz4 cz5 cz6 cz7 cz8 cz9 czr czh czb
    have hOo := hO2
    obtain ⟨ck1, ck2, ck3, ck4, ck5, ck6, ck7, ck8, ck9, ckr, ckh, ckb⟩ := hOo
    obtain ⟨rx, ry, q1, q2, q3, q4, q5⟩ := ckr
    go_wp2
    refine bodyPost_ret (v := .tuple #[.agg #[.int .i64 0, .int .i64 0], .bool false]) (by simp only [results, Try.results83]; go_simp) rfl ⟨rfl, ?_⟩
    (repeat (first | with_reducible exact Below.refl _ _ | with_reducible assumption | with_reducible refine balloc ?_ _ | with_reducible refine bdrew ?_ | with_reducible refine below_drewN ?_ _ | with_reducible refine bset ?_ ?_ _ | with_reducible exact Nat.le_refl _ | with_reducible refine bsize ?_ | (dsimp only; refine Nat.le_trans ?_ (Nat.le_add_right _ _)) | with_reducible refine Nat.le_trans ?_ (Nat.le_add_right _ _) | (with_reducible refine bstep ?_ (by assumption))))
end Go.Proofs.Ytkignanlkakdpaa
