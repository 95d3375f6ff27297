/- Depots: the laws' argument opened; lists of depots; states. -/
import Derived.Test.YtjmmlknbdmngeaaRow
import Derived.Test.YtjmmlknbdmngeaaLawBase
namespace Go.Proofs.Ytjmmlknbdmngeaa
open Go.ChangeShapes Go.WideShapes Go.ChangeAt Go.RowKit Go.Joins
set_option maxRecDepth 100000
set_option linter.unusedVariables false
set_option linter.unusedSimpArgs false

/-- A depot: where it is (a / b), and its fuel (n / d). -/
structure DepotV where
  a : Int
  b : Int
  n : Int
  d : Int
instance : Inhabited DepotV := ⟨⟨0, 0, 0, 0⟩⟩
def fDepot (p : DepotV) : List Int := [p.a, p.b, p.n, p.d]
theorem fDepot_len (p : DepotV) : (fDepot p).length = 4 := rfl
theorem cellsDepot : Try.prog.cellsOf 122 = 4 := by kernel_rfl
theorem cellsState : Try.prog.cellsOf 35 = 7 := by kernel_rfl
section
variable {H : Type} {enc : TypeId × Value → H} {W : World} {base fuel : Nat} {spare : Nat → Bool} {held : Bool} {cs : List Value} {x : DataW H × List MemPlace}
theorem trod_depot (h : DataW.trod enc Try.prog W base spare held fuel 122 cs = some x) :
    ∃ p : DepotV, cs = (fDepot p).map (Value.int .i64) ∧ ∀ y ∈ fDepot p, -9223372036854775808 ≤ y ∧ y ≤ 9223372036854775807 := by
  obtain ⟨y0, y1, n', _, hl, h0, h1⟩ := trod_struct2 Try.underlying122 h
  rw [cellsDepot] at hl
  obtain ⟨a, b, e0, ba, bb⟩ := trod_amt h0
  obtain ⟨p, q, e1, bp, bq⟩ := trod_amt h1
  match cs, hl with
  | [c0, c1, c2, c3], _ =>
    simp [cellsAmt] at e0 e1
    obtain ⟨rfl, rfl⟩ := e0
    obtain ⟨rfl, rfl⟩ := e1
    exact ⟨⟨a, b, p, q⟩, rfl, by simp [fDepot]; exact ⟨ba, bb, bp, bq⟩⟩

abbrev B64 (x : Int) : Prop := -9223372036854775808 ≤ x ∧ x ≤ 9223372036854775807
/-- A state's six numbers are what an int holds. -/
structure StBd (a b c d e f : Int) : Prop where
  a : B64 a
  b : B64 b
  c : B64 c
  d : B64 d
  e : B64 e
  f : B64 f
theorem open_state {b0 : Nat} {v : Value} {d : DataW H} {pl : List MemPlace} (hv : Value.okWide Try.prog W .any b0 35 v) (h : DataW.Trod enc Try.prog W base spare held 35 v d pl) :
    ∃ (a b c d e f : Int) (s : Value), v = .agg #[.int .i64 a, .int .i64 b, .int .i64 c, .int .i64 d, .int .i64 e, .int .i64 f, s] ∧ StBd a b c d e f ∧ AnyG 4 fDepot W s := by
  obtain ⟨cs, rfl, hsz⟩ := okWide_struct Try.underlying35 hv
  obtain ⟨fuel, hf⟩ := h
  obtain ⟨y0, y1, y2, y3, n', _, hl, h0, h1, h2, h3⟩ := trod_struct4 Try.underlying35 hf
  rw [cellsState] at hl
  obtain ⟨a, b, e0, ba, bb⟩ := trod_amt h0
  obtain ⟨c, d', e1, bc, bd⟩ := trod_amt h1
  obtain ⟨e, f, e2, be, bf⟩ := trod_amt h2
  have hC : Try.prog.cellsOf 33 = 1 := by kernel_rfl
  obtain ⟨s, e3, hs⟩ := open_cellsG (α := DepotV) fDepot_len Try.underlying33 cellsDepot (fun n cs x h => trod_depot h) h3
  obtain ⟨cs⟩ := cs
  match cs, hl with
  | [c0, c1, c2, c3, c4, c5, c6], _ =>
    simp [Value.cells, cellsAmt, hC] at e0 e1 e2 e3
    obtain ⟨rfl, rfl⟩ := e0
    obtain ⟨rfl, rfl⟩ := e1
    obtain ⟨rfl, rfl⟩ := e2
    subst e3
    exact ⟨a, b, c, d', e, f, _, rfl, ⟨ba, bb, bc, bd, be, bf⟩, hs⟩
end

set_option maxHeartbeats 400000 in
theorem toDepot (a b n d : Int) (w : World) :
    Calls Try.prog 99 #[.agg #[.int .i64 a, .int .i64 b, .int .i64 n, .int .i64 d]] w fun e w' => e = .returned (.agg #[.int .i64 a, .int .i64 b, .int .i64 n, .int .i64 d]) ∧ Below w.heap.size w w' := by
  go_enter Try.func99, Try.ntmps99
  (go_wp2_with fail; refine (toAmt _ _ _).mono ?_; rintro e w1 ⟨rfl, hb1⟩; (have ha1 : Below w.heap.size w w1 := by (repeat (first | with_reducible exact Below.refl _ _ | with_reducible assumption | with_reducible refine balloc ?_ _ | with_reducible refine bdrew ?_ | with_reducible refine below_drewN ?_ _ | with_reducible refine bset ?_ ?_ _ | with_reducible exact Nat.le_refl _ | with_reducible refine bsize ?_ | (dsimp only; refine Nat.le_trans ?_ (Nat.le_add_right _ _)) | with_reducible refine Nat.le_trans ?_ (Nat.le_add_right _ _) | (with_reducible refine bstep ?_ (by assumption))))); obtain ⟨kc1, kf1, kz1, ky1, kx1, kv1, ku1⟩ := bcell hb1)
  have q1_h_0 : w1.cell? ⟨w.heap.size, 0, none⟩ = some (.int .i64 a) := by rw [kc1 _ _ (by first | assumption | (simp; done) | (simp; omega) | omega)]; simp [go_sem]
  have r1_h_0 : w1.frozen? ⟨w.heap.size, 0, none⟩ = false := by rw [kf1 _ _ (by first | assumption | (simp; done) | (simp; omega) | omega)]; simp [go_sem]
  have q1_h_1 : w1.cell? ⟨w.heap.size, 1, none⟩ = some (.int .i64 b) := by rw [kc1 _ _ (by first | assumption | (simp; done) | (simp; omega) | omega)]; simp [go_sem]
  have r1_h_1 : w1.frozen? ⟨w.heap.size, 1, none⟩ = false := by rw [kf1 _ _ (by first | assumption | (simp; done) | (simp; omega) | omega)]; simp [go_sem]
  have q1_h_2 : w1.cell? ⟨w.heap.size, 2, none⟩ = some (.int .i64 n) := by rw [kc1 _ _ (by first | assumption | (simp; done) | (simp; omega) | omega)]; simp [go_sem]
  have r1_h_2 : w1.frozen? ⟨w.heap.size, 2, none⟩ = false := by rw [kf1 _ _ (by first | assumption | (simp; done) | (simp; omega) | omega)]; simp [go_sem]
  have q1_h_3 : w1.cell? ⟨w.heap.size, 3, none⟩ = some (.int .i64 d) := by rw [kc1 _ _ (by first | assumption | (simp; done) | (simp; omega) | omega)]; simp [go_sem]
  have r1_h_3 : w1.frozen? ⟨w.heap.size, 3, none⟩ = false := by rw [kf1 _ _ (by first | assumption | (simp; done) | (simp; omega) | omega)]; simp [go_sem]
  have z1_h : w.heap.size < w1.heap.size := kz1 _ (by first | assumption | (simp; done) | (simp; omega) | omega)
  have q1_h_1_0 : w1.cell? ⟨w.heap.size + 1, 0, none⟩ = some (.int .i64 0) := by rw [kc1 _ _ (by first | assumption | (simp; done) | (simp; omega) | omega)]; simp [go_sem]
  have r1_h_1_0 : w1.frozen? ⟨w.heap.size + 1, 0, none⟩ = false := by rw [kf1 _ _ (by first | assumption | (simp; done) | (simp; omega) | omega)]; simp [go_sem]
  have q1_h_1_1 : w1.cell? ⟨w.heap.size + 1, 1, none⟩ = some (.int .i64 0) := by rw [kc1 _ _ (by first | assumption | (simp; done) | (simp; omega) | omega)]; simp [go_sem]
  have r1_h_1_1 : w1.frozen? ⟨w.heap.size + 1, 1, none⟩ = false := by rw [kf1 _ _ (by first | assumption | (simp; done) | (simp; omega) | omega)]; simp [go_sem]
  have q1_h_1_2 : w1.cell? ⟨w.heap.size + 1, 2, none⟩ = some (.int .i64 0) := by rw [kc1 _ _ (by first | assumption | (simp; done) | (simp; omega) | omega)]; simp [go_sem]
  have r1_h_1_2 : w1.frozen? ⟨w.heap.size + 1, 2, none⟩ = false := by rw [kf1 _ _ (by first | assumption | (simp; done) | (simp; omega) | omega)]; simp [go_sem]
  have q1_h_1_3 : w1.cell? ⟨w.heap.size + 1, 3, none⟩ = some (.int .i64 0) := by rw [kc1 _ _ (by first | assumption | (simp; done) | (simp; omega) | omega)]; simp [go_sem]
  have r1_h_1_3 : w1.frozen? ⟨w.heap.size + 1, 3, none⟩ = false := by rw [kf1 _ _ (by first | assumption | (simp; done) | (simp; omega) | omega)]; simp [go_sem]
  have z1_h_1 : w.heap.size + 1 < w1.heap.size := kz1 _ (by first | assumption | (simp; done) | (simp; omega) | omega)
  have q1_h_1_1_0 : w1.cell? ⟨w.heap.size + 1 + 1, 0, none⟩ = some (.int .i64 0) := by rw [kc1 _ _ (by first | assumption | (simp; done) | (simp; omega) | omega)]; simp [go_sem]
  have r1_h_1_1_0 : w1.frozen? ⟨w.heap.size + 1 + 1, 0, none⟩ = false := by rw [kf1 _ _ (by first | assumption | (simp; done) | (simp; omega) | omega)]; simp [go_sem]
  have q1_h_1_1_1 : w1.cell? ⟨w.heap.size + 1 + 1, 1, none⟩ = some (.int .i64 0) := by rw [kc1 _ _ (by first | assumption | (simp; done) | (simp; omega) | omega)]; simp [go_sem]
  have r1_h_1_1_1 : w1.frozen? ⟨w.heap.size + 1 + 1, 1, none⟩ = false := by rw [kf1 _ _ (by first | assumption | (simp; done) | (simp; omega) | omega)]; simp [go_sem]
  have q1_h_1_1_2 : w1.cell? ⟨w.heap.size + 1 + 1, 2, none⟩ = some (.int .i64 0) := by rw [kc1 _ _ (by first | assumption | (simp; done) | (simp; omega) | omega)]; simp [go_sem]
  have r1_h_1_1_2 : w1.frozen? ⟨w.heap.size + 1 + 1, 2, none⟩ = false := by rw [kf1 _ _ (by first | assumption | (simp; done) | (simp; omega) | omega)]; simp [go_sem]
  have q1_h_1_1_3 : w1.cell? ⟨w.heap.size + 1 + 1, 3, none⟩ = some (.int .i64 0) := by rw [kc1 _ _ (by first | assumption | (simp; done) | (simp; omega) | omega)]; simp [go_sem]
  have r1_h_1_1_3 : w1.frozen? ⟨w.heap.size + 1 + 1, 3, none⟩ = false := by rw [kf1 _ _ (by first | assumption | (simp; done) | (simp; omega) | omega)]; simp [go_sem]
  have z1_h_1_1 : w.heap.size + 1 + 1 < w1.heap.size := kz1 _ (by first | assumption | (simp; done) | (simp; omega) | omega)
  clear kc1 kf1 kz1 ky1 kx1 kv1 ku1 hb1
  (go_wp2_with fail; refine (toAmt _ _ _).mono ?_; rintro e w2 ⟨rfl, hb2⟩; (have ha2 : Below w.heap.size w w2 := by (repeat (first | with_reducible exact Below.refl _ _ | with_reducible assumption | with_reducible refine balloc ?_ _ | with_reducible refine bdrew ?_ | with_reducible refine below_drewN ?_ _ | with_reducible refine bset ?_ ?_ _ | with_reducible exact Nat.le_refl _ | with_reducible refine bsize ?_ | (dsimp only; refine Nat.le_trans ?_ (Nat.le_add_right _ _)) | with_reducible refine Nat.le_trans ?_ (Nat.le_add_right _ _) | (with_reducible refine bstep ?_ (by assumption))))); obtain ⟨kc2, kf2, kz2, ky2, kx2, kv2, ku2⟩ := bcell hb2)
  have q2_h_1_0 : w2.cell? ⟨w.heap.size + 1, 0, none⟩ = some (.int .i64 0) := by rw [kc2 _ _ (by first | assumption | (simp; done) | (simp; omega) | omega)]; simp [go_sem, q1_h_0, r1_h_0, q1_h_1, r1_h_1, q1_h_2, r1_h_2, q1_h_3, r1_h_3, z1_h, q1_h_1_0, r1_h_1_0, q1_h_1_1, r1_h_1_1, q1_h_1_2, r1_h_1_2, q1_h_1_3, r1_h_1_3, z1_h_1, q1_h_1_1_0, r1_h_1_1_0, q1_h_1_1_1, r1_h_1_1_1, q1_h_1_1_2, r1_h_1_1_2, q1_h_1_1_3, r1_h_1_1_3, z1_h_1_1]
  have r2_h_1_0 : w2.frozen? ⟨w.heap.size + 1, 0, none⟩ = false := by rw [kf2 _ _ (by first | assumption | (simp; done) | (simp; omega) | omega)]; simp [go_sem, q1_h_0, r1_h_0, q1_h_1, r1_h_1, q1_h_2, r1_h_2, q1_h_3, r1_h_3, z1_h, q1_h_1_0, r1_h_1_0, q1_h_1_1, r1_h_1_1, q1_h_1_2, r1_h_1_2, q1_h_1_3, r1_h_1_3, z1_h_1, q1_h_1_1_0, r1_h_1_1_0, q1_h_1_1_1, r1_h_1_1_1, q1_h_1_1_2, r1_h_1_1_2, q1_h_1_1_3, r1_h_1_1_3, z1_h_1_1]
  have q2_h_1_1 : w2.cell? ⟨w.heap.size + 1, 1, none⟩ = some (.int .i64 0) := by rw [kc2 _ _ (by first | assumption | (simp; done) | (simp; omega) | omega)]; simp [go_sem, q1_h_0, r1_h_0, q1_h_1, r1_h_1, q1_h_2, r1_h_2, q1_h_3, r1_h_3, z1_h, q1_h_1_0, r1_h_1_0, q1_h_1_1, r1_h_1_1, q1_h_1_2, r1_h_1_2, q1_h_1_3, r1_h_1_3, z1_h_1, q1_h_1_1_0, r1_h_1_1_0, q1_h_1_1_1, r1_h_1_1_1, q1_h_1_1_2, r1_h_1_1_2, q1_h_1_1_3, r1_h_1_1_3, z1_h_1_1]
  have r2_h_1_1 : w2.frozen? ⟨w.heap.size + 1, 1, none⟩ = false := by rw [kf2 _ _ (by first | assumption | (simp; done) | (simp; omega) | omega)]; simp [go_sem, q1_h_0, r1_h_0, q1_h_1, r1_h_1, q1_h_2, r1_h_2, q1_h_3, r1_h_3, z1_h, q1_h_1_0, r1_h_1_0, q1_h_1_1, r1_h_1_1, q1_h_1_2, r1_h_1_2, q1_h_1_3, r1_h_1_3, z1_h_1, q1_h_1_1_0, r1_h_1_1_0, q1_h_1_1_1, r1_h_1_1_1, q1_h_1_1_2, r1_h_1_1_2, q1_h_1_1_3, r1_h_1_1_3, z1_h_1_1]
  have q2_h_1_2 : w2.cell? ⟨w.heap.size + 1, 2, none⟩ = some (.int .i64 0) := by rw [kc2 _ _ (by first | assumption | (simp; done) | (simp; omega) | omega)]; simp [go_sem, q1_h_0, r1_h_0, q1_h_1, r1_h_1, q1_h_2, r1_h_2, q1_h_3, r1_h_3, z1_h, q1_h_1_0, r1_h_1_0, q1_h_1_1, r1_h_1_1, q1_h_1_2, r1_h_1_2, q1_h_1_3, r1_h_1_3, z1_h_1, q1_h_1_1_0, r1_h_1_1_0, q1_h_1_1_1, r1_h_1_1_1, q1_h_1_1_2, r1_h_1_1_2, q1_h_1_1_3, r1_h_1_1_3, z1_h_1_1]
  have r2_h_1_2 : w2.frozen? ⟨w.heap.size + 1, 2, none⟩ = false := by rw [kf2 _ _ (by first | assumption | (simp; done) | (simp; omega) | omega)]; simp [go_sem, q1_h_0, r1_h_0, q1_h_1, r1_h_1, q1_h_2, r1_h_2, q1_h_3, r1_h_3, z1_h, q1_h_1_0, r1_h_1_0, q1_h_1_1, r1_h_1_1, q1_h_1_2, r1_h_1_2, q1_h_1_3, r1_h_1_3, z1_h_1, q1_h_1_1_0, r1_h_1_1_0, q1_h_1_1_1, r1_h_1_1_1, q1_h_1_1_2, r1_h_1_1_2, q1_h_1_1_3, r1_h_1_1_3, z1_h_1_1]
  have q2_h_1_3 : w2.cell? ⟨w.heap.size + 1, 3, none⟩ = some (.int .i64 0) := by rw [kc2 _ _ (by first | assumption | (simp; done) | (simp; omega) | omega)]; simp [go_sem, q1_h_0, r1_h_0, q1_h_1, r1_h_1, q1_h_2, r1_h_2, q1_h_3, r1_h_3, z1_h, q1_h_1_0, r1_h_1_0, q1_h_1_1, r1_h_1_1, q1_h_1_2, r1_h_1_2, q1_h_1_3, r1_h_1_3, z1_h_1, q1_h_1_1_0, r1_h_1_1_0, q1_h_1_1_1, r1_h_1_1_1, q1_h_1_1_2, r1_h_1_1_2, q1_h_1_1_3, r1_h_1_1_3, z1_h_1_1]
  have r2_h_1_3 : w2.frozen? ⟨w.heap.size + 1, 3, none⟩ = false := by rw [kf2 _ _ (by first | assumption | (simp; done) | (simp; omega) | omega)]; simp [go_sem, q1_h_0, r1_h_0, q1_h_1, r1_h_1, q1_h_2, r1_h_2, q1_h_3, r1_h_3, z1_h, q1_h_1_0, r1_h_1_0, q1_h_1_1, r1_h_1_1, q1_h_1_2, r1_h_1_2, q1_h_1_3, r1_h_1_3, z1_h_1, q1_h_1_1_0, r1_h_1_1_0, q1_h_1_1_1, r1_h_1_1_1, q1_h_1_1_2, r1_h_1_1_2, q1_h_1_1_3, r1_h_1_1_3, z1_h_1_1]
  have z2_h_1 : w.heap.size + 1 < w2.heap.size := kz2 _ (by first | assumption | (simp; done) | (simp; omega) | omega)
  have q2_h_1_1_0 : w2.cell? ⟨w.heap.size + 1 + 1, 0, none⟩ = some (.int .i64 a) := by rw [kc2 _ _ (by first | assumption | (simp; done) | (simp; omega) | omega)]; simp [go_sem, q1_h_0, r1_h_0, q1_h_1, r1_h_1, q1_h_2, r1_h_2, q1_h_3, r1_h_3, z1_h, q1_h_1_0, r1_h_1_0, q1_h_1_1, r1_h_1_1, q1_h_1_2, r1_h_1_2, q1_h_1_3, r1_h_1_3, z1_h_1, q1_h_1_1_0, r1_h_1_1_0, q1_h_1_1_1, r1_h_1_1_1, q1_h_1_1_2, r1_h_1_1_2, q1_h_1_1_3, r1_h_1_1_3, z1_h_1_1]
  have r2_h_1_1_0 : w2.frozen? ⟨w.heap.size + 1 + 1, 0, none⟩ = false := by rw [kf2 _ _ (by first | assumption | (simp; done) | (simp; omega) | omega)]; simp [go_sem, q1_h_0, r1_h_0, q1_h_1, r1_h_1, q1_h_2, r1_h_2, q1_h_3, r1_h_3, z1_h, q1_h_1_0, r1_h_1_0, q1_h_1_1, r1_h_1_1, q1_h_1_2, r1_h_1_2, q1_h_1_3, r1_h_1_3, z1_h_1, q1_h_1_1_0, r1_h_1_1_0, q1_h_1_1_1, r1_h_1_1_1, q1_h_1_1_2, r1_h_1_1_2, q1_h_1_1_3, r1_h_1_1_3, z1_h_1_1]
  have q2_h_1_1_1 : w2.cell? ⟨w.heap.size + 1 + 1, 1, none⟩ = some (.int .i64 b) := by rw [kc2 _ _ (by first | assumption | (simp; done) | (simp; omega) | omega)]; simp [go_sem, q1_h_0, r1_h_0, q1_h_1, r1_h_1, q1_h_2, r1_h_2, q1_h_3, r1_h_3, z1_h, q1_h_1_0, r1_h_1_0, q1_h_1_1, r1_h_1_1, q1_h_1_2, r1_h_1_2, q1_h_1_3, r1_h_1_3, z1_h_1, q1_h_1_1_0, r1_h_1_1_0, q1_h_1_1_1, r1_h_1_1_1, q1_h_1_1_2, r1_h_1_1_2, q1_h_1_1_3, r1_h_1_1_3, z1_h_1_1]
  have r2_h_1_1_1 : w2.frozen? ⟨w.heap.size + 1 + 1, 1, none⟩ = false := by rw [kf2 _ _ (by first | assumption | (simp; done) | (simp; omega) | omega)]; simp [go_sem, q1_h_0, r1_h_0, q1_h_1, r1_h_1, q1_h_2, r1_h_2, q1_h_3, r1_h_3, z1_h, q1_h_1_0, r1_h_1_0, q1_h_1_1, r1_h_1_1, q1_h_1_2, r1_h_1_2, q1_h_1_3, r1_h_1_3, z1_h_1, q1_h_1_1_0, r1_h_1_1_0, q1_h_1_1_1, r1_h_1_1_1, q1_h_1_1_2, r1_h_1_1_2, q1_h_1_1_3, r1_h_1_1_3, z1_h_1_1]
  have q2_h_1_1_2 : w2.cell? ⟨w.heap.size + 1 + 1, 2, none⟩ = some (.int .i64 0) := by rw [kc2 _ _ (by first | assumption | (simp; done) | (simp; omega) | omega)]; simp [go_sem, q1_h_0, r1_h_0, q1_h_1, r1_h_1, q1_h_2, r1_h_2, q1_h_3, r1_h_3, z1_h, q1_h_1_0, r1_h_1_0, q1_h_1_1, r1_h_1_1, q1_h_1_2, r1_h_1_2, q1_h_1_3, r1_h_1_3, z1_h_1, q1_h_1_1_0, r1_h_1_1_0, q1_h_1_1_1, r1_h_1_1_1, q1_h_1_1_2, r1_h_1_1_2, q1_h_1_1_3, r1_h_1_1_3, z1_h_1_1]
  have r2_h_1_1_2 : w2.frozen? ⟨w.heap.size + 1 + 1, 2, none⟩ = false := by rw [kf2 _ _ (by first | assumption | (simp; done) | (simp; omega) | omega)]; simp [go_sem, q1_h_0, r1_h_0, q1_h_1, r1_h_1, q1_h_2, r1_h_2, q1_h_3, r1_h_3, z1_h, q1_h_1_0, r1_h_1_0, q1_h_1_1, r1_h_1_1, q1_h_1_2, r1_h_1_2, q1_h_1_3, r1_h_1_3, z1_h_1, q1_h_1_1_0, r1_h_1_1_0, q1_h_1_1_1, r1_h_1_1_1, q1_h_1_1_2, r1_h_1_1_2, q1_h_1_1_3, r1_h_1_1_3, z1_h_1_1]
  have q2_h_1_1_3 : w2.cell? ⟨w.heap.size + 1 + 1, 3, none⟩ = some (.int .i64 0) := by rw [kc2 _ _ (by first | assumption | (simp; done) | (simp; omega) | omega)]; simp [go_sem, q1_h_0, r1_h_0, q1_h_1, r1_h_1, q1_h_2, r1_h_2, q1_h_3, r1_h_3, z1_h, q1_h_1_0, r1_h_1_0, q1_h_1_1, r1_h_1_1, q1_h_1_2, r1_h_1_2, q1_h_1_3, r1_h_1_3, z1_h_1, q1_h_1_1_0, r1_h_1_1_0, q1_h_1_1_1, r1_h_1_1_1, q1_h_1_1_2, r1_h_1_1_2, q1_h_1_1_3, r1_h_1_1_3, z1_h_1_1]
  have r2_h_1_1_3 : w2.frozen? ⟨w.heap.size + 1 + 1, 3, none⟩ = false := by rw [kf2 _ _ (by first | assumption | (simp; done) | (simp; omega) | omega)]; simp [go_sem, q1_h_0, r1_h_0, q1_h_1, r1_h_1, q1_h_2, r1_h_2, q1_h_3, r1_h_3, z1_h, q1_h_1_0, r1_h_1_0, q1_h_1_1, r1_h_1_1, q1_h_1_2, r1_h_1_2, q1_h_1_3, r1_h_1_3, z1_h_1, q1_h_1_1_0, r1_h_1_1_0, q1_h_1_1_1, r1_h_1_1_1, q1_h_1_1_2, r1_h_1_1_2, q1_h_1_1_3, r1_h_1_1_3, z1_h_1_1]
  have z2_h_1_1 : w.heap.size + 1 + 1 < w2.heap.size := kz2 _ (by first | assumption | (simp; done) | (simp; omega) | omega)
  clear kc2 kf2 kz2 ky2 kx2 kv2 ku2 hb2 q1_h_0 r1_h_0 q1_h_1 r1_h_1 q1_h_2 r1_h_2 q1_h_3 r1_h_3 z1_h q1_h_1_0 r1_h_1_0 q1_h_1_1 r1_h_1_1 q1_h_1_2 r1_h_1_2 q1_h_1_3 r1_h_1_3 z1_h_1 q1_h_1_1_0 r1_h_1_1_0 q1_h_1_1_1 r1_h_1_1_1 q1_h_1_1_2 r1_h_1_1_2 q1_h_1_1_3 r1_h_1_1_3 z1_h_1_1
  go_wp2
  refine bodyPost_ret (v := .agg #[.int .i64 a, .int .i64 b, .int .i64 n, .int .i64 d]) (by simp only [results, Try.results99]; go_simp) rfl ⟨rfl, ?_⟩
  (repeat (first | with_reducible exact Below.refl _ _ | with_reducible assumption | with_reducible refine balloc ?_ _ | with_reducible refine bdrew ?_ | with_reducible refine below_drewN ?_ _ | with_reducible refine bset ?_ ?_ _ | with_reducible exact Nat.le_refl _ | with_reducible refine bsize ?_ | (dsimp only; refine Nat.le_trans ?_ (Nat.le_add_right _ _)) | with_reducible refine Nat.le_trans ?_ (Nat.le_add_right _ _) | (with_reducible refine bstep ?_ (by assumption))))
theorem eqDepot_same (a b n d : Int) (w : World) :
    Calls Try.prog 104 #[.agg #[.int .i64 a, .int .i64 b, .int .i64 n, .int .i64 d], .agg #[.int .i64 a, .int .i64 b, .int .i64 n, .int .i64 d]] w fun e w' => e = .returned (.bool true) ∧ Below w.heap.size w w' := by
  go_enter Try.func104, Try.ntmps104
  (go_wp2_with fail; refine (eq_same _ _ _).mono ?_; rintro e w1 ⟨rfl, hb1⟩; have ha1 := hb1; obtain ⟨kc1, kf1, kz1, ky1, kx1, kv1, ku1⟩ := bcell hb1)
  (go_wp2_with fail; refine (eq_same _ _ _).mono ?_; rintro e w2 ⟨rfl, hb2⟩; have ha2 := bjoin ha1 hb2 (by (repeat (first | with_reducible exact Below.refl _ _ | with_reducible assumption | with_reducible refine balloc ?_ _ | with_reducible refine bdrew ?_ | with_reducible refine below_drewN ?_ _ | with_reducible refine bset ?_ ?_ _ | with_reducible exact Nat.le_refl _ | with_reducible refine bsize ?_ | (dsimp only; refine Nat.le_trans ?_ (Nat.le_add_right _ _)) | with_reducible refine Nat.le_trans ?_ (Nat.le_add_right _ _) | (with_reducible refine bstep ?_ (by assumption))))); obtain ⟨kc2, kf2, kz2, ky2, kx2, kv2, ku2⟩ := bcell hb2; obtain ⟨jc2, jf2, jz2, jy2, jx2, jv2, ju2⟩ := bcell ha2)
  go_wp2
  go_ret
  refine ⟨rfl, ?_⟩
  (repeat (first | with_reducible exact Below.refl _ _ | with_reducible assumption | with_reducible refine balloc ?_ _ | with_reducible refine bdrew ?_ | with_reducible refine below_drewN ?_ _ | with_reducible refine bset ?_ ?_ _ | with_reducible exact Nat.le_refl _ | with_reducible refine bsize ?_ | (dsimp only; refine Nat.le_trans ?_ (Nat.le_add_right _ _)) | with_reducible refine Nat.le_trans ?_ (Nat.le_add_right _ _) | (with_reducible refine bstep ?_ (by assumption))))
end Go.Proofs.Ytjmmlknbdmngeaa
