/- Camels: what GoodsFor of the model has in its variables; the numbers of a round. -/
import Derived.Test.YtkignanlkakdpaaCamK
namespace Go.Proofs.Ytkignanlkakdpaa
open Go.ChangeShapes Go.WideShapes Go.ChangeAt Go.RowKit Go.Joins
set_option maxRecDepth 100000
set_option linter.unusedVariables false
set_option linter.unusedSimpArgs false

structure GfSt (w W : World) (b1 b2 : Nat) (L E p q x y g h : Int) : Prop where
  c0 : W.cell? ⟨w.heap.size, 0, none⟩ = some (.int .i64 L)
  c1 : W.cell? ⟨w.heap.size, 1, none⟩ = some (.int .i64 E)
  p0 : W.cell? ⟨w.heap.size + 1, 0, none⟩ = some (.int .i64 p)
  p1 : W.cell? ⟨w.heap.size + 1, 1, none⟩ = some (.int .i64 q)
  x0 : W.cell? ⟨b1, 0, none⟩ = some (.int .i64 x)
  x1 : W.cell? ⟨b1, 1, none⟩ = some (.int .i64 y)
  g0 : W.cell? ⟨b2, 0, none⟩ = some (.int .i64 g)
  g1 : W.cell? ⟨b2, 1, none⟩ = some (.int .i64 h)
  fx0 : W.frozen? ⟨b1, 0, none⟩ = false
  fx1 : W.frozen? ⟨b1, 1, none⟩ = false
  fg0 : W.frozen? ⟨b2, 0, none⟩ = false
  fg1 : W.frozen? ⟨b2, 1, none⟩ = false
  res : HasRes (w.heap.size + 1 + 1 + 1) W
  hs1 : w.heap.size + 1 + 1 + 1 < b1
  hs2 : w.heap.size + 1 + 1 + 1 < b2
  ne : b1 ≠ b2
  z1 : b1 < W.heap.size
  z2 : b2 < W.heap.size
  bel : Below w.heap.size w W
theorem GfSt.later {w W W' : World} {b1 b2 : Nat} {L E p q x y g h : Int} (H : GfSt w W b1 b2 L E p q x y g h) (hb : Below W.heap.size W W') : GfSt w W' b1 b2 L E p q x y g h := by
  obtain ⟨c0, c1, p0, p1, x0, x1, g0, g1, fx0, fx1, fg0, fg1, res, hs1, hs2, ne, z1, z2, bel⟩ := H
  exact ⟨keepa hb (by omega) c0, keepa hb (by omega) c1, keepa hb (by omega) p0, keepa hb (by omega) p1, keepa hb z1 x0, keepa hb z1 x1, keepa hb z2 g0, keepa hb z2 g1, keepz hb z1 fx0, keepz hb z1 fx1, keepz hb z2 fg0, keepz hb z2 fg1, res.later hb, hs1, hs2, ne, Nat.lt_of_lt_of_le z1 hb.size, Nat.lt_of_lt_of_le z2 hb.size, bstep bel hb⟩
theorem GfSt.drew {w W : World} {b1 b2 : Nat} {L E p q x y g h : Int} (H : GfSt w W b1 b2 L E p q x y g h) : GfSt w W.drew b1 b2 L E p q x y g h := H.later (bdrew (Below.refl _ _))
theorem HasRes.far {b : Nat} {W : World} (h : HasRes b W) {c o : Nat} (v : Value) (hne : b ≠ c) : HasRes b (W.setCell ⟨c, o, none⟩ v) := by
  obtain ⟨x, y, a1, a2, a3, a4, a5⟩ := h
  have hn := Ne.symm hne
  exact ⟨x, y, by simp [go_sem, a1, hne, hn], by simp [go_sem, a2, hne, hn], by simp [go_sem, a3], by simp [go_sem, a4], by simpa using a5⟩
theorem GfSt.setX {w W : World} {b1 b2 : Nat} {L E p q x y g h : Int} (H : GfSt w W b1 b2 L E p q x y g h) (x' y' : Int) : GfSt w ((W.setCell ⟨b1, 0, none⟩ (.int .i64 x')).setCell ⟨b1, 1, none⟩ (.int .i64 y')) b1 b2 L E p q x' y' g h := by
  obtain ⟨c0, c1, p0, p1, x0, x1, g0, g1, fx0, fx1, fg0, fg1, res, hs1, hs2, ne, z1, z2, bel⟩ := H
  have e1 : ¬ b1 = w.heap.size := by omega
  have e2 : ¬ w.heap.size = b1 := by omega
  have e3 : ¬ b1 = w.heap.size + 1 := by omega
  have e4 : ¬ w.heap.size + 1 = b1 := by omega
  have e5 : ¬ b1 = b2 := ne
  have e6 : ¬ b2 = b1 := Ne.symm ne
  exact ⟨by simp [go_sem, c0, e1, e2], by simp [go_sem, c1, e1, e2], by simp [go_sem, p0, e3, e4], by simp [go_sem, p1, e3, e4], by simp [go_sem, x0, x1, z1], by simp [go_sem, x0, x1, z1], by simp [go_sem, g0, e5, e6], by simp [go_sem, g1, e5, e6],
    by simp [go_sem, fx0], by simp [go_sem, fx1], by simp [go_sem, fg0], by simp [go_sem, fg1], (res.far _ (by omega)).far _ (by omega), hs1, hs2, ne, by simpa using z1, by simpa using z2, bset (bset bel (by simp; omega) _) (by simp; omega) _⟩
theorem GfSt.setG {w W : World} {b1 b2 : Nat} {L E p q x y g h : Int} (H : GfSt w W b1 b2 L E p q x y g h) (g' h' : Int) : GfSt w ((W.setCell ⟨b2, 0, none⟩ (.int .i64 g')).setCell ⟨b2, 1, none⟩ (.int .i64 h')) b1 b2 L E p q x y g' h' := by
  obtain ⟨c0, c1, p0, p1, x0, x1, g0, g1, fx0, fx1, fg0, fg1, res, hs1, hs2, ne, z1, z2, bel⟩ := H
  have e1 : ¬ b2 = w.heap.size := by omega
  have e2 : ¬ w.heap.size = b2 := by omega
  have e3 : ¬ b2 = w.heap.size + 1 := by omega
  have e4 : ¬ w.heap.size + 1 = b2 := by omega
  have e5 : ¬ b1 = b2 := ne
  have e6 : ¬ b2 = b1 := Ne.symm ne
  exact ⟨by simp [go_sem, c0, e1, e2], by simp [go_sem, c1, e1, e2], by simp [go_sem, p0, e3, e4], by simp [go_sem, p1, e3, e4], by simp [go_sem, x0, e5, e6], by simp [go_sem, x1, e5, e6], by simp [go_sem, g0, g1, z2], by simp [go_sem, g0, g1, z2],
    by simp [go_sem, fx0], by simp [go_sem, fx1], by simp [go_sem, fg0], by simp [go_sem, fg1], (res.far _ (by omega)).far _ (by omega), hs1, hs2, ne, by simpa using z1, by simpa using z2, bset (bset bel (by simp; omega) _) (by simp; omega) _⟩
/-- The numbers at the head of a round, with k + 1 trips. -/
structure GfAt (L E d n : Int) (k : Nat) (U x y g h : Int) : Prop where
  at_ : PartAt L d n k U g h
  nU : n ≤ U
  ex : x = rdN (dS (L * d) U - dS (L * d) n) (3465 * (d * E))
  ey : y = rdD (dS (L * d) U - dS (L * d) n) (3465 * (d * E))
  g0 : 0 ≤ g
  g1 : g ≤ 864
  h1 : 1 ≤ h
  h2 : h ≤ 12
theorem gf_bd {L E d n : Int} {t : Nat} (H : CamIn L E d n t) (U V : Int) (hV : V ≤ U) : 0 ≤ rdN (dS (L * d) U - dS (L * d) V) (3465 * (d * E)) ∧ rdN (dS (L * d) U - dS (L * d) V) (3465 * (d * E)) ≤ 937152 ∧ 1 ≤ rdD (dS (L * d) U - dS (L * d) V) (3465 * (d * E)) ∧ rdD (dS (L * d) U - dS (L * d) V) (3465 * (d * E)) ≤ 498960 := by
  obtain ⟨l1, l2⟩ := H.ld
  have hdE := H.dE
  have hm := dS_mono (L * d) V U hV
  have h1 := dS_bd2 (L * d) U (by omega)
  have h2 := dS_bd2 (L * d) V (by omega)
  obtain ⟨x1, x2, x3, _, _⟩ := rd_bd (dS (L * d) U - dS (L * d) V) (3465 * (d * E)) (by omega)
  have x3 := x3 (by omega)
  omega
theorem gf_start {L E d n : Int} {t : Nat} (H : CamIn L E d n t) (k : Nat) (hk : k + 1 = t) : GfAt L E d n k n 0 1 n d := by
  have hdE := H.dE
  have e : dS (L * d) n - dS (L * d) n = 0 := by omega
  refine ⟨gf_first H k hk, Int.le_refl _, ?_, ?_, H.n0, H.n2, H.d1, H.d2⟩
  · rw [e]; unfold rdN; simp
  · rw [e]; unfold rdD gi; simp; rw [Int.natAbs_of_nonneg (by omega), Int.ediv_self (by omega)]
theorem gf_on {L E d n : Int} {t : Nat} (H : CamIn L E d n t) (k : Nat) (hk : k < 6) (ht : t ≤ k) : GfAt L E d n k (k * (L * d)) (rdN (dS (L * d) (k * (L * d)) - dS (L * d) n) (3465 * (d * E))) (rdD (dS (L * d) (k * (L * d)) - dS (L * d) n) (3465 * (d * E))) (k * L) 1 := by
  obtain ⟨l1, l2⟩ := H.ld
  have hl := H.L1
  have hm := mul_le2 (k : Int) L 6 12 (by omega) (by omega) (by omega) H.L2
  refine ⟨gf_part H k hk ht, ?_, rfl, rfl, hm.1, by omega, by omega, by omega⟩
  have hi := H.ht.hi
  have : (t : Int) * (L * d) ≤ k * (L * d) := Int.mul_le_mul_of_nonneg_right (by omega) (by omega)
  omega
structure GfB (L E : Int) (k : Nat) (x y g h R : Int) : Prop where
  x0 : 0 ≤ x
  x1 : x ≤ 937152
  y0 : 1 ≤ y
  y1 : y ≤ 498960
  r0 : 1 ≤ R
  r1 : R ≤ 132
  a0 : 0 ≤ ((k : Int) + 1) * L
  a1 : ((k : Int) + 1) * L ≤ 72
  b0 : 0 ≤ ((k : Int) + 1) * L * h
  b1 : ((k : Int) + 1) * L * h ≤ 864
  m0 : 0 ≤ ((k : Int) + 1) * L * h - g
  u0 : 1 ≤ h * R
  u1 : h * R ≤ 1584
  fur : FurBd x y (((k : Int) + 1) * L * h - g) (h * R)
  v0 : -123704064 ≤ -R * x
  v1 : -R * x ≤ 0
  fur2 : FurBd g h (-R * x) y
theorem gf_b {L E d n : Int} {t : Nat} (H : CamIn L E d n t) {k : Nat} {U x y g h : Int} (G : GfAt L E d n k U x y g h) : GfB L E k x y g h ((2 * (k : Int) + 1) * E) := by
  obtain ⟨ha, nU, ex, ey, g0, g1, h1, h2⟩ := G
  have bx := gf_bd H U n nU
  rw [← ex, ← ey] at bx
  have hk := ha.k6
  have L1 := H.L1
  have E1 := H.E1
  have d1 := H.d1
  have hR1 := Int.mul_pos (show 0 < 2 * (k : Int) + 1 by omega) (show 0 < E by omega)
  have hR2 := mul_le2 (2 * (k : Int) + 1) E 11 12 (by omega) (by omega) (by omega) H.E2
  generalize (2 * (k : Int) + 1) * E = R at *
  have hkL := mul_le2 ((k : Int) + 1) L 6 12 (by omega) (by omega) (by omega) H.L2
  have hkLh := mul_le2 (((k : Int) + 1) * L) h 72 12 hkL.1 hkL.2 (by omega) h2
  have hu1 := Int.mul_pos (show 0 < h by omega) (show 0 < R by omega)
  have hu2 := mul_le2 h R 12 132 (by omega) h2 (by omega) hR2.2
  have hm : 0 ≤ ((k : Int) + 1) * L * h - g := by
    refine Decidable.byContradiction fun hc => ?_
    have e1 := Int.mul_neg_of_neg_of_pos (show ((k : Int) + 1) * L * h - g < 0 by omega) (show 0 < d by omega)
    rw [Int.sub_mul, ha.eq] at e1
    have e2 := Int.mul_le_mul_of_nonneg_right ha.hi (show 0 ≤ h by omega)
    have e5 : ((k : Int) + 1) * L * h * d = ((k : Int) + 1) * (L * d) * h := by ac_rfl
    omega
  have hRx := mul_le2 R x 132 937152 (by omega) hR2.2 bx.1 bx.2.1
  have eN : -R * x = -(R * x) := Int.neg_mul _ _
  have eN2 : -R * x * h = -(R * x * h) := by rw [eN, Int.neg_mul]
  have c1 := mul_le2 x (h * R) 937152 1584 bx.1 bx.2.1 (by omega) (by omega)
  have c2 := mul_le2 (((k : Int) + 1) * L * h - g) y 864 498960 hm (by omega) (by omega) bx.2.2.2
  have c3 := mul_le2 (h * R) y 1584 498960 (by omega) (by omega) (by omega) bx.2.2.2
  have c4 := Int.mul_pos (show 0 < h * R by omega) (show 0 < y by omega)
  have c5 := mul_le2 g y 864 498960 g0 g1 (by omega) bx.2.2.2
  have c6 := mul_le2 (R * x) h 123704064 12 hRx.1 (by omega) (by omega) h2
  have c7 := mul_le2 y h 498960 12 (by omega) bx.2.2.2 (by omega) h2
  have c8 := Int.mul_pos (show 0 < y by omega) (show 0 < h by omega)
  exact ⟨bx.1, bx.2.1, bx.2.2.1, bx.2.2.2, by omega, by omega, hkL.1, by omega, hkLh.1, by omega, hm, by omega, by omega, ⟨by omega, by omega, by omega, by omega, by omega⟩, by omega, by omega, ⟨by omega, by omega, by omega, by omega, by omega⟩⟩
/-- The numbers of the answer. -/
structure GfC (a b q R p : Int) : Prop where
  a0 : -9000000000000000000 ≤ a * q
  a1 : a * q ≤ 9000000000000000000
  r0 : 0 ≤ R * p
  r1 : R * p ≤ 132000000000
  s0 : 0 ≤ R * p * b
  s1 : R * p * b ≤ 9000000000000000000
  t0 : -9000000000000000000 ≤ a * q + R * p * b
  t1 : a * q + R * p * b ≤ 9000000000000000000
  u0 : 1 ≤ b * q
  u1 : b * q ≤ 9000000000000000000
theorem gf_c {L E d n : Int} {t : Nat} (H : CamIn L E d n t) {k : Nat} {U x y g h : Int} (G : GfAt L E d n k U x y g h) (p q : Int) (p0 : 0 ≤ p) (p1 : p ≤ 1000000000) (q0 : 1 ≤ q) (q1 : q ≤ 1000000) (R : Int) (hR : R = (2 * (k : Int) + 1) * E) :
    GfC (rdN (g * y + -R * x * h) (y * h)) (rdD (g * y + -R * x * h) (y * h)) q R p := by
  have B := gf_b H G
  rw [← hR] at B
  obtain ⟨x0, x1, y0, y1, r0, r1, _, _, _, _, _, _, _, _, v0, v1, _⟩ := B
  obtain ⟨_, _, _, _, g0, g1, h1, h2⟩ := G
  have c5 := mul_le2 g y 864 498960 g0 g1 (by omega) y1
  have eN2 : -R * x * h = -(-(-R * x) * h) := by rw [Int.neg_mul (-R * x) h, Int.neg_neg]
  have c6 := mul_le2 (-(-R * x)) h 123704064 12 (by omega) (by omega) (by omega) h2
  have c7 := mul_le2 y h 498960 12 (by omega) y1 (by omega) h2
  have c8 := Int.mul_pos (show 0 < y by omega) (show 0 < h by omega)
  obtain ⟨z1, z2, z3, z4, _⟩ := rd_bd (g * y + -R * x * h) (y * h) (by omega)
  have za : -2000000000 ≤ rdN (g * y + -R * x * h) (y * h) ∧ rdN (g * y + -R * x * h) (y * h) ≤ 2000000000 := by
    by_cases hh : 0 ≤ g * y + -R * x * h
    · have := z3 hh; omega
    · have := z4 (by omega); omega
  generalize rdN (g * y + -R * x * h) (y * h) = a at *
  generalize rdD (g * y + -R * x * h) (y * h) = b at *
  have e1 := mul_le2 (a + 2000000000) q 4000000000 1000000 (by omega) (by omega) (by omega) q1
  have e2 : (a + 2000000000) * q = a * q + 2000000000 * q := Int.add_mul _ _ _
  have e3 := mul_le2 R p 132 1000000000 (by omega) r1 p0 p1
  have e4 := mul_le2 (R * p) b 132000000000 5987520 e3.1 (by omega) (by omega) (by omega)
  have e5 := mul_le2 b q 5987520 1000000 (by omega) (by omega) (by omega) q1
  have e6 := Int.mul_pos (show 0 < b by omega) (show 0 < q by omega)
  exact ⟨by omega, by omega, e3.1, by omega, e4.1, by omega, by omega, by omega, by omega, by omega⟩
end Go.Proofs.Ytkignanlkakdpaa
