/- Desks: what the laws take; IsDesk on both sides. -/
import Derived.Test.YthebhljhlpfknaaRow
import Derived.Test.YthebhljhlpfknaaLawBase
namespace Go.Proofs.Ythebhljhlpfknaa
open Go.ChangeShapes Go.WideShapes Go.ChangeAt Go.RowKit Go.Joins
set_option maxRecDepth 100000
set_option linter.unusedVariables false
set_option linter.unusedSimpArgs false

/-- A desk: its Fuel (a / b) and its Way (n / d). -/
structure DeskV where
  a : Int
  b : Int
  n : Int
  d : Int
instance : Inhabited DeskV := ⟨⟨0, 0, 0, 0⟩⟩
def fDesk (p : DeskV) : List Int := [p.a, p.b, p.n, p.d]
theorem fDesk_len (p : DeskV) : (fDesk p).length = 4 := rfl
theorem cellsDsk : Try.prog.cellsOf 64 = 4 := by kernel_rfl
section
variable {H : Type} {enc : TypeId × Value → H} {W : World} {base fuel : Nat} {spare : Nat → Bool} {held : Bool} {cs : List Value} {x : DataW H × List MemPlace}
theorem trod_dsk (h : DataW.trod enc Try.prog W base spare held fuel 64 cs = some x) :
    ∃ p : DeskV, cs = (fDesk p).map (Value.int .i64) ∧ ∀ y ∈ fDesk p, -9223372036854775808 ≤ y ∧ y ≤ 9223372036854775807 := by
  obtain ⟨y0, y1, n', _, hl, h0, h1⟩ := trod_struct2 Try.underlying64 h
  rw [cellsDsk] at hl
  obtain ⟨a, b, e0, ba, bb⟩ := trod_amt h0
  obtain ⟨p, q, e1, bp, bq⟩ := trod_amt h1
  match cs, hl with
  | [c0, c1, c2, c3], _ =>
    simp [cellsAmt] at e0 e1
    obtain ⟨rfl, rfl⟩ := e0
    obtain ⟨rfl, rfl⟩ := e1
    exact ⟨⟨a, b, p, q⟩, rfl, by simp [fDesk]; exact ⟨ba, bb, bp, bq⟩⟩
theorem open_dsk {b0 : Nat} {v : Value} {d : DataW H} {pl : List MemPlace} (hv : Value.okWide Try.prog W .any b0 64 v) (h : DataW.Trod enc Try.prog W base spare held 64 v d pl) :
    ∃ a b n m : Int, v = .agg #[.int .i64 a, .int .i64 b, .int .i64 n, .int .i64 m] ∧ (-9223372036854775808 ≤ a ∧ a ≤ 9223372036854775807) ∧ (-9223372036854775808 ≤ b ∧ b ≤ 9223372036854775807) ∧ (-9223372036854775808 ≤ n ∧ n ≤ 9223372036854775807) ∧ -9223372036854775808 ≤ m ∧ m ≤ 9223372036854775807 := by
  obtain ⟨cs, rfl, hsz⟩ := okWide_struct Try.underlying64 hv
  obtain ⟨fuel, hf⟩ := h
  obtain ⟨⟨a, b, n, m⟩, e, hb⟩ := trod_dsk hf
  simp [fDesk] at hb
  obtain ⟨cs⟩ := cs
  simp [Value.cells, fDesk] at e
  subst e
  exact ⟨a, b, n, m, rfl, hb.1, hb.2.1, hb.2.2.1, hb.2.2.2⟩
end
set_option maxHeartbeats 400000 in
theorem toDsk_b (a b n d : Int) (w : World) :
    Calls Try.prog 50 #[.agg #[.int .i64 a, .int .i64 b, .int .i64 n, .int .i64 d]] w fun e w' => e = .returned (.agg #[.int .i64 a, .int .i64 b, .int .i64 n, .int .i64 d]) ∧ Below w.heap.size w w' := by
  go_enter Try.func50, Try.ntmps50
  (go_wp2_with fail; refine (toAmt _ _ _).mono ?_; rintro e w1 ⟨rfl, hb1⟩; (have ha1 : Below w.heap.size w w1 := by (repeat (first | with_reducible exact Below.refl _ _ | with_reducible assumption | with_reducible refine balloc ?_ _ | with_reducible refine bdrew ?_ | with_reducible refine below_drewN ?_ _ | with_reducible refine bset ?_ ?_ _ | with_reducible exact Nat.le_refl _ | with_reducible refine bsize ?_ | (dsimp only; refine Nat.le_trans ?_ (Nat.le_add_right _ _)) | with_reducible refine Nat.le_trans ?_ (Nat.le_add_right _ _) | (with_reducible refine bstep ?_ (by assumption))))); obtain ⟨kc1, kf1, kz1, ky1, kx1, kv1, ku1⟩ := bcell hb1)
  have q1_h_0 : w1.cell? ⟨w.heap.size, 0, none⟩ = some (.int .i64 a) := by rw [kc1 _ _ (by first | assumption | (simp; done) | (simp; omega) | omega)]; simp [go_sem]
  have r1_h_0 : w1.frozen? ⟨w.heap.size, 0, none⟩ = false := by rw [kf1 _ _ (by first | assumption | (simp; done) | (simp; omega) | omega)]; simp [go_sem]
  have q1_h_1 : w1.cell? ⟨w.heap.size, 1, none⟩ = some (.int .i64 b) := by rw [kc1 _ _ (by first | assumption | (simp; done) | (simp; omega) | omega)]; simp [go_sem]
  have r1_h_1 : w1.frozen? ⟨w.heap.size, 1, none⟩ = false := by rw [kf1 _ _ (by first | assumption | (simp; done) | (simp; omega) | omega)]; simp [go_sem]
  have q1_h_2 : w1.cell? ⟨w.heap.size, 2, none⟩ = some (.int .i64 n) := by rw [kc1 _ _ (by first | assumption | (simp; done) | (simp; omega) | omega)]; simp [go_sem]
  have r1_h_2 : w1.frozen? ⟨w.heap.size, 2, none⟩ = false := by rw [kf1 _ _ (by first | assumption | (simp; done) | (simp; omega) | omega)]; simp [go_sem]
  have q1_h_3 : w1.cell? ⟨w.heap.size, 3, none⟩ = some (.int .i64 d) := by rw [kc1 _ _ (by first | assumption | (simp; done) | (simp; omega) | omega)]; simp [go_sem]
  have r1_h_3 : w1.frozen? ⟨w.heap.size, 3, none⟩ = false := by rw [kf1 _ _ (by first | assumption | (simp; done) | (simp; omega) | omega)]; simp [go_sem]
  have z1_h : w.heap.size < w1.heap.size := kz1 _ (by first | assumption | (simp; done) | (simp; omega) | omega)
  have q1_h_1_0 : w1.cell? ⟨w.heap.size + 1, 0, none⟩ = some (.int .i64 0) := by rw [kc1 _ _ (by first | assumption | (simp; done) | (simp; omega) | omega)]; simp [go_sem]
  have r1_h_1_0 : w1.frozen? ⟨w.heap.size + 1, 0, none⟩ = false := by rw [kf1 _ _ (by first | assumption | (simp; done) | (simp; omega) | omega)]; simp [go_sem]
  have q1_h_1_1 : w1.cell? ⟨w.heap.size + 1, 1, none⟩ = some (.int .i64 0) := by rw [kc1 _ _ (by first | assumption | (simp; done) | (simp; omega) | omega)]; simp [go_sem]
  have r1_h_1_1 : w1.frozen? ⟨w.heap.size + 1, 1, none⟩ = false := by rw [kf1 _ _ (by first | assumption | (simp; done) | (simp; omega) | omega)]; simp [go_sem]
  have q1_h_1_2 : w1.cell? ⟨w.heap.size + 1, 2, none⟩ = some (.int .i64 0) := by rw [kc1 _ _ (by first | assumption | (simp; done) | (simp; omega) | omega)]; simp [go_sem]
  have r1_h_1_2 : w1.frozen? ⟨w.heap.size + 1, 2, none⟩ = false := by rw [kf1 _ _ (by first | assumption | (simp; done) | (simp; omega) | omega)]; simp [go_sem]
  have q1_h_1_3 : w1.cell? ⟨w.heap.size + 1, 3, none⟩ = some (.int .i64 0) := by rw [kc1 _ _ (by first | assumption | (simp; done) | (simp; omega) | omega)]; simp [go_sem]
  have r1_h_1_3 : w1.frozen? ⟨w.heap.size + 1, 3, none⟩ = false := by rw [kf1 _ _ (by first | assumption | (simp; done) | (simp; omega) | omega)]; simp [go_sem]
  have z1_h_1 : w.heap.size + 1 < w1.heap.size := kz1 _ (by first | assumption | (simp; done) | (simp; omega) | omega)
  have q1_h_1_1_0 : w1.cell? ⟨w.heap.size + 1 + 1, 0, none⟩ = some (.int .i64 0) := by rw [kc1 _ _ (by first | assumption | (simp; done) | (simp; omega) | omega)]; simp [go_sem]
  have r1_h_1_1_0 : w1.frozen? ⟨w.heap.size + 1 + 1, 0, none⟩ = false := by rw [kf1 _ _ (by first | assumption | (simp; done) | (simp; omega) | omega)]; simp [go_sem]
  have q1_h_1_1_1 : w1.cell? ⟨w.heap.size + 1 + 1, 1, none⟩ = some (.int .i64 0) := by rw [kc1 _ _ (by first | assumption | (simp; done) | (simp; omega) | omega)]; simp [go_sem]
  have r1_h_1_1_1 : w1.frozen? ⟨w.heap.size + 1 + 1, 1, none⟩ = false := by rw [kf1 _ _ (by first | assumption | (simp; done) | (simp; omega) | omega)]; simp [go_sem]
  have q1_h_1_1_2 : w1.cell? ⟨w.heap.size + 1 + 1, 2, none⟩ = some (.int .i64 0) := by rw [kc1 _ _ (by first | assumption | (simp; done) | (simp; omega) | omega)]; simp [go_sem]
  have r1_h_1_1_2 : w1.frozen? ⟨w.heap.size + 1 + 1, 2, none⟩ = false := by rw [kf1 _ _ (by first | assumption | (simp; done) | (simp; omega) | omega)]; simp [go_sem]
  have q1_h_1_1_3 : w1.cell? ⟨w.heap.size + 1 + 1, 3, none⟩ = some (.int .i64 0) := by rw [kc1 _ _ (by first | assumption | (simp; done) | (simp; omega) | omega)]; simp [go_sem]
  have r1_h_1_1_3 : w1.frozen? ⟨w.heap.size + 1 + 1, 3, none⟩ = false := by rw [kf1 _ _ (by first | assumption | (simp; done) | (simp; omega) | omega)]; simp [go_sem]
  have z1_h_1_1 : w.heap.size + 1 + 1 < w1.heap.size := kz1 _ (by first | assumption | (simp; done) | (simp; omega) | omega)
  clear kc1 kf1 kz1 ky1 kx1 kv1 ku1 hb1
  (go_wp2_with fail; refine (toAmt _ _ _).mono ?_; rintro e w2 ⟨rfl, hb2⟩; (have ha2 : Below w.heap.size w w2 := by (repeat (first | with_reducible exact Below.refl _ _ | with_reducible assumption | with_reducible refine balloc ?_ _ | with_reducible refine bdrew ?_ | with_reducible refine below_drewN ?_ _ | with_reducible refine bset ?_ ?_ _ | with_reducible exact Nat.le_refl _ | with_reducible refine bsize ?_ | (dsimp only; refine Nat.le_trans ?_ (Nat.le_add_right _ _)) | with_reducible refine Nat.le_trans ?_ (Nat.le_add_right _ _) | (with_reducible refine bstep ?_ (by assumption))))); obtain ⟨kc2, kf2, kz2, ky2, kx2, kv2, ku2⟩ := bcell hb2)
  have q2_h_1_0 : w2.cell? ⟨w.heap.size + 1, 0, none⟩ = some (.int .i64 0) := by rw [kc2 _ _ (by first | assumption | (simp; done) | (simp; omega) | omega)]; simp [go_sem, q1_h_0, r1_h_0, q1_h_1, r1_h_1, q1_h_2, r1_h_2, q1_h_3, r1_h_3, z1_h, q1_h_1_0, r1_h_1_0, q1_h_1_1, r1_h_1_1, q1_h_1_2, r1_h_1_2, q1_h_1_3, r1_h_1_3, z1_h_1, q1_h_1_1_0, r1_h_1_1_0, q1_h_1_1_1, r1_h_1_1_1, q1_h_1_1_2, r1_h_1_1_2, q1_h_1_1_3, r1_h_1_1_3, z1_h_1_1]
  have r2_h_1_0 : w2.frozen? ⟨w.heap.size + 1, 0, none⟩ = false := by rw [kf2 _ _ (by first | assumption | (simp; done) | (simp; omega) | omega)]; simp [go_sem, q1_h_0, r1_h_0, q1_h_1, r1_h_1, q1_h_2, r1_h_2, q1_h_3, r1_h_3, z1_h, q1_h_1_0, r1_h_1_0, q1_h_1_1, r1_h_1_1, q1_h_1_2, r1_h_1_2, q1_h_1_3, r1_h_1_3, z1_h_1, q1_h_1_1_0, r1_h_1_1_0, q1_h_1_1_1, r1_h_1_1_1, q1_h_1_1_2, r1_h_1_1_2, q1_h_1_1_3, r1_h_1_1_3, z1_h_1_1]
  have q2_h_1_1 : w2.cell? ⟨w.heap.size + 1, 1, none⟩ = some (.int .i64 0) := by rw [kc2 _ _ (by first | assumption | (simp; done) | (simp; omega) | omega)]; simp [go_sem, q1_h_0, r1_h_0, q1_h_1, r1_h_1, q1_h_2, r1_h_2, q1_h_3, r1_h_3, z1_h, q1_h_1_0, r1_h_1_0, q1_h_1_1, r1_h_1_1, q1_h_1_2, r1_h_1_2, q1_h_1_3, r1_h_1_3, z1_h_1, q1_h_1_1_0, r1_h_1_1_0, q1_h_1_1_1, r1_h_1_1_1, q1_h_1_1_2, r1_h_1_1_2, q1_h_1_1_3, r1_h_1_1_3, z1_h_1_1]
  have r2_h_1_1 : w2.frozen? ⟨w.heap.size + 1, 1, none⟩ = false := by rw [kf2 _ _ (by first | assumption | (simp; done) | (simp; omega) | omega)]; simp [go_sem, q1_h_0, r1_h_0, q1_h_1, r1_h_1, q1_h_2, r1_h_2, q1_h_3, r1_h_3, z1_h, q1_h_1_0, r1_h_1_0, q1_h_1_1, r1_h_1_1, q1_h_1_2, r1_h_1_2, q1_h_1_3, r1_h_1_3, z1_h_1, q1_h_1_1_0, r1_h_1_1_0, q1_h_1_1_1, r1_h_1_1_1, q1_h_1_1_2, r1_h_1_1_2, q1_h_1_1_3, r1_h_1_1_3, z1_h_1_1]
  have q2_h_1_2 : w2.cell? ⟨w.heap.size + 1, 2, none⟩ = some (.int .i64 0) := by rw [kc2 _ _ (by first | assumption | (simp; done) | (simp; omega) | omega)]; simp [go_sem, q1_h_0, r1_h_0, q1_h_1, r1_h_1, q1_h_2, r1_h_2, q1_h_3, r1_h_3, z1_h, q1_h_1_0, r1_h_1_0, q1_h_1_1, r1_h_1_1, q1_h_1_2, r1_h_1_2, q1_h_1_3, r1_h_1_3, z1_h_1, q1_h_1_1_0, r1_h_1_1_0, q1_h_1_1_1, r1_h_1_1_1, q1_h_1_1_2, r1_h_1_1_2, q1_h_1_1_3, r1_h_1_1_3, z1_h_1_1]
  have r2_h_1_2 : w2.frozen? ⟨w.heap.size + 1, 2, none⟩ = false := by rw [kf2 _ _ (by first | assumption | (simp; done) | (simp; omega) | omega)]; simp [go_sem, q1_h_0, r1_h_0, q1_h_1, r1_h_1, q1_h_2, r1_h_2, q1_h_3, r1_h_3, z1_h, q1_h_1_0, r1_h_1_0, q1_h_1_1, r1_h_1_1, q1_h_1_2, r1_h_1_2, q1_h_1_3, r1_h_1_3, z1_h_1, q1_h_1_1_0, r1_h_1_1_0, q1_h_1_1_1, r1_h_1_1_1, q1_h_1_1_2, r1_h_1_1_2, q1_h_1_1_3, r1_h_1_1_3, z1_h_1_1]
  have q2_h_1_3 : w2.cell? ⟨w.heap.size + 1, 3, none⟩ = some (.int .i64 0) := by rw [kc2 _ _ (by first | assumption | (simp; done) | (simp; omega) | omega)]; simp [go_sem, q1_h_0, r1_h_0, q1_h_1, r1_h_1, q1_h_2, r1_h_2, q1_h_3, r1_h_3, z1_h, q1_h_1_0, r1_h_1_0, q1_h_1_1, r1_h_1_1, q1_h_1_2, r1_h_1_2, q1_h_1_3, r1_h_1_3, z1_h_1, q1_h_1_1_0, r1_h_1_1_0, q1_h_1_1_1, r1_h_1_1_1, q1_h_1_1_2, r1_h_1_1_2, q1_h_1_1_3, r1_h_1_1_3, z1_h_1_1]
  have r2_h_1_3 : w2.frozen? ⟨w.heap.size + 1, 3, none⟩ = false := by rw [kf2 _ _ (by first | assumption | (simp; done) | (simp; omega) | omega)]; simp [go_sem, q1_h_0, r1_h_0, q1_h_1, r1_h_1, q1_h_2, r1_h_2, q1_h_3, r1_h_3, z1_h, q1_h_1_0, r1_h_1_0, q1_h_1_1, r1_h_1_1, q1_h_1_2, r1_h_1_2, q1_h_1_3, r1_h_1_3, z1_h_1, q1_h_1_1_0, r1_h_1_1_0, q1_h_1_1_1, r1_h_1_1_1, q1_h_1_1_2, r1_h_1_1_2, q1_h_1_1_3, r1_h_1_1_3, z1_h_1_1]
  have z2_h_1 : w.heap.size + 1 < w2.heap.size := kz2 _ (by first | assumption | (simp; done) | (simp; omega) | omega)
  have q2_h_1_1_0 : w2.cell? ⟨w.heap.size + 1 + 1, 0, none⟩ = some (.int .i64 a) := by rw [kc2 _ _ (by first | assumption | (simp; done) | (simp; omega) | omega)]; simp [go_sem, q1_h_0, r1_h_0, q1_h_1, r1_h_1, q1_h_2, r1_h_2, q1_h_3, r1_h_3, z1_h, q1_h_1_0, r1_h_1_0, q1_h_1_1, r1_h_1_1, q1_h_1_2, r1_h_1_2, q1_h_1_3, r1_h_1_3, z1_h_1, q1_h_1_1_0, r1_h_1_1_0, q1_h_1_1_1, r1_h_1_1_1, q1_h_1_1_2, r1_h_1_1_2, q1_h_1_1_3, r1_h_1_1_3, z1_h_1_1]
  have r2_h_1_1_0 : w2.frozen? ⟨w.heap.size + 1 + 1, 0, none⟩ = false := by rw [kf2 _ _ (by first | assumption | (simp; done) | (simp; omega) | omega)]; simp [go_sem, q1_h_0, r1_h_0, q1_h_1, r1_h_1, q1_h_2, r1_h_2, q1_h_3, r1_h_3, z1_h, q1_h_1_0, r1_h_1_0, q1_h_1_1, r1_h_1_1, q1_h_1_2, r1_h_1_2, q1_h_1_3, r1_h_1_3, z1_h_1, q1_h_1_1_0, r1_h_1_1_0, q1_h_1_1_1, r1_h_1_1_1, q1_h_1_1_2, r1_h_1_1_2, q1_h_1_1_3, r1_h_1_1_3, z1_h_1_1]
  have q2_h_1_1_1 : w2.cell? ⟨w.heap.size + 1 + 1, 1, none⟩ = some (.int .i64 b) := by rw [kc2 _ _ (by first | assumption | (simp; done) | (simp; omega) | omega)]; simp [go_sem, q1_h_0, r1_h_0, q1_h_1, r1_h_1, q1_h_2, r1_h_2, q1_h_3, r1_h_3, z1_h, q1_h_1_0, r1_h_1_0, q1_h_1_1, r1_h_1_1, q1_h_1_2, r1_h_1_2, q1_h_1_3, r1_h_1_3, z1_h_1, q1_h_1_1_0, r1_h_1_1_0, q1_h_1_1_1, r1_h_1_1_1, q1_h_1_1_2, r1_h_1_1_2, q1_h_1_1_3, r1_h_1_1_3, z1_h_1_1]
  have r2_h_1_1_1 : w2.frozen? ⟨w.heap.size + 1 + 1, 1, none⟩ = false := by rw [kf2 _ _ (by first | assumption | (simp; done) | (simp; omega) | omega)]; simp [go_sem, q1_h_0, r1_h_0, q1_h_1, r1_h_1, q1_h_2, r1_h_2, q1_h_3, r1_h_3, z1_h, q1_h_1_0, r1_h_1_0, q1_h_1_1, r1_h_1_1, q1_h_1_2, r1_h_1_2, q1_h_1_3, r1_h_1_3, z1_h_1, q1_h_1_1_0, r1_h_1_1_0, q1_h_1_1_1, r1_h_1_1_1, q1_h_1_1_2, r1_h_1_1_2, q1_h_1_1_3, r1_h_1_1_3, z1_h_1_1]
  have q2_h_1_1_2 : w2.cell? ⟨w.heap.size + 1 + 1, 2, none⟩ = some (.int .i64 0) := by rw [kc2 _ _ (by first | assumption | (simp; done) | (simp; omega) | omega)]; simp [go_sem, q1_h_0, r1_h_0, q1_h_1, r1_h_1, q1_h_2, r1_h_2, q1_h_3, r1_h_3, z1_h, q1_h_1_0, r1_h_1_0, q1_h_1_1, r1_h_1_1, q1_h_1_2, r1_h_1_2, q1_h_1_3, r1_h_1_3, z1_h_1, q1_h_1_1_0, r1_h_1_1_0, q1_h_1_1_1, r1_h_1_1_1, q1_h_1_1_2, r1_h_1_1_2, q1_h_1_1_3, r1_h_1_1_3, z1_h_1_1]
  have r2_h_1_1_2 : w2.frozen? ⟨w.heap.size + 1 + 1, 2, none⟩ = false := by rw [kf2 _ _ (by first | assumption | (simp; done) | (simp; omega) | omega)]; simp [go_sem, q1_h_0, r1_h_0, q1_h_1, r1_h_1, q1_h_2, r1_h_2, q1_h_3, r1_h_3, z1_h, q1_h_1_0, r1_h_1_0, q1_h_1_1, r1_h_1_1, q1_h_1_2, r1_h_1_2, q1_h_1_3, r1_h_1_3, z1_h_1, q1_h_1_1_0, r1_h_1_1_0, q1_h_1_1_1, r1_h_1_1_1, q1_h_1_1_2, r1_h_1_1_2, q1_h_1_1_3, r1_h_1_1_3, z1_h_1_1]
  have q2_h_1_1_3 : w2.cell? ⟨w.heap.size + 1 + 1, 3, none⟩ = some (.int .i64 0) := by rw [kc2 _ _ (by first | assumption | (simp; done) | (simp; omega) | omega)]; simp [go_sem, q1_h_0, r1_h_0, q1_h_1, r1_h_1, q1_h_2, r1_h_2, q1_h_3, r1_h_3, z1_h, q1_h_1_0, r1_h_1_0, q1_h_1_1, r1_h_1_1, q1_h_1_2, r1_h_1_2, q1_h_1_3, r1_h_1_3, z1_h_1, q1_h_1_1_0, r1_h_1_1_0, q1_h_1_1_1, r1_h_1_1_1, q1_h_1_1_2, r1_h_1_1_2, q1_h_1_1_3, r1_h_1_1_3, z1_h_1_1]
  have r2_h_1_1_3 : w2.frozen? ⟨w.heap.size + 1 + 1, 3, none⟩ = false := by rw [kf2 _ _ (by first | assumption | (simp; done) | (simp; omega) | omega)]; simp [go_sem, q1_h_0, r1_h_0, q1_h_1, r1_h_1, q1_h_2, r1_h_2, q1_h_3, r1_h_3, z1_h, q1_h_1_0, r1_h_1_0, q1_h_1_1, r1_h_1_1, q1_h_1_2, r1_h_1_2, q1_h_1_3, r1_h_1_3, z1_h_1, q1_h_1_1_0, r1_h_1_1_0, q1_h_1_1_1, r1_h_1_1_1, q1_h_1_1_2, r1_h_1_1_2, q1_h_1_1_3, r1_h_1_1_3, z1_h_1_1]
  have z2_h_1_1 : w.heap.size + 1 + 1 < w2.heap.size := kz2 _ (by first | assumption | (simp; done) | (simp; omega) | omega)
  clear kc2 kf2 kz2 ky2 kx2 kv2 ku2 hb2 q1_h_0 r1_h_0 q1_h_1 r1_h_1 q1_h_2 r1_h_2 q1_h_3 r1_h_3 z1_h q1_h_1_0 r1_h_1_0 q1_h_1_1 r1_h_1_1 q1_h_1_2 r1_h_1_2 q1_h_1_3 r1_h_1_3 z1_h_1 q1_h_1_1_0 r1_h_1_1_0 q1_h_1_1_1 r1_h_1_1_1 q1_h_1_1_2 r1_h_1_1_2 q1_h_1_1_3 r1_h_1_1_3 z1_h_1_1
  go_wp2
  refine bodyPost_ret (v := .agg #[.int .i64 a, .int .i64 b, .int .i64 n, .int .i64 d]) (by simp only [results, Try.results50]; go_simp) rfl ⟨rfl, ?_⟩
  (repeat (first | with_reducible exact Below.refl _ _ | with_reducible assumption | with_reducible refine balloc ?_ _ | with_reducible refine bdrew ?_ | with_reducible refine below_drewN ?_ _ | with_reducible refine bset ?_ ?_ _ | with_reducible exact Nat.le_refl _ | with_reducible refine bsize ?_ | (dsimp only; refine Nat.le_trans ?_ (Nat.le_add_right _ _)) | with_reducible refine Nat.le_trans ?_ (Nat.le_add_right _ _) | (with_reducible refine bstep ?_ (by assumption))))
def dskB (p q r s : Int) : Bool := amB p q && amB r s
set_option maxHeartbeats 400000 in
theorem dsk_impl (p q r s : Int) (bp : -9223372036854775808 ≤ p ∧ p ≤ 9223372036854775807) (bq : -9223372036854775808 ≤ q ∧ q ≤ 9223372036854775807) (br : -9223372036854775808 ≤ r ∧ r ≤ 9223372036854775807) (bs : -9223372036854775808 ≤ s ∧ s ≤ 9223372036854775807) (w : World) :
    Calls Try.prog 51 #[.agg #[.int .i64 p, .int .i64 q, .int .i64 r, .int .i64 s]] w fun e w' => e = .returned (.bool (dskB p q r s)) ∧ Below w.heap.size w w' := by
  cases h1 : amB p q
  · have e : dskB p q r s = false := by simp [dskB, h1]
    rw [e]; clear e
    go_enter Try.func51, Try.ntmps51
    (go_wp2_with fail; refine (isam_impl p q (by omega) (by omega) _).mono ?_; rintro e w1 ⟨rfl, hb1⟩; rw [h1]; have ha1 := hb1; obtain ⟨kc1, kf1, kz1, ky1, kx1, kv1, ku1⟩ := bcell hb1)
    go_wp2
    go_ret
    refine ⟨rfl, ?_⟩
    (repeat (first | with_reducible exact Below.refl _ _ | with_reducible assumption | with_reducible refine balloc ?_ _ | with_reducible refine bdrew ?_ | with_reducible refine below_drewN ?_ _ | with_reducible refine bset ?_ ?_ _ | with_reducible exact Nat.le_refl _ | with_reducible refine bsize ?_ | (dsimp only; refine Nat.le_trans ?_ (Nat.le_add_right _ _)) | with_reducible refine Nat.le_trans ?_ (Nat.le_add_right _ _) | (with_reducible refine bstep ?_ (by assumption))))
  · have e : dskB p q r s = amB r s := by simp [dskB, h1]
    rw [e]; clear e
    go_enter Try.func51, Try.ntmps51
    (go_wp2_with fail; refine (isam_impl p q (by omega) (by omega) _).mono ?_; rintro e w1 ⟨rfl, hb1⟩; rw [h1]; have ha1 := hb1; obtain ⟨kc1, kf1, kz1, ky1, kx1, kv1, ku1⟩ := bcell hb1)
    (go_wp2_with fail; refine (isam_impl r s (by omega) (by omega) _).mono ?_; rintro e w2 ⟨rfl, hb2⟩; have ha2 := bjoin ha1 hb2 (by (repeat (first | with_reducible exact Below.refl _ _ | with_reducible assumption | with_reducible refine balloc ?_ _ | with_reducible refine bdrew ?_ | with_reducible refine below_drewN ?_ _ | with_reducible refine bset ?_ ?_ _ | with_reducible exact Nat.le_refl _ | with_reducible refine bsize ?_ | (dsimp only; refine Nat.le_trans ?_ (Nat.le_add_right _ _)) | with_reducible refine Nat.le_trans ?_ (Nat.le_add_right _ _) | (with_reducible refine bstep ?_ (by assumption))))); obtain ⟨kc2, kf2, kz2, ky2, kx2, kv2, ku2⟩ := bcell hb2; obtain ⟨jc2, jf2, jz2, jy2, jx2, jv2, ju2⟩ := bcell ha2)
    go_wp2
    go_ret
    refine ⟨rfl, ?_⟩
    (repeat (first | with_reducible exact Below.refl _ _ | with_reducible assumption | with_reducible refine balloc ?_ _ | with_reducible refine bdrew ?_ | with_reducible refine below_drewN ?_ _ | with_reducible refine bset ?_ ?_ _ | with_reducible exact Nat.le_refl _ | with_reducible refine bsize ?_ | (dsimp only; refine Nat.le_trans ?_ (Nat.le_add_right _ _)) | with_reducible refine Nat.le_trans ?_ (Nat.le_add_right _ _) | (with_reducible refine bstep ?_ (by assumption))))
set_option maxHeartbeats 400000 in
theorem dsk_spec (p q r s : Int) (bp : -9223372036854775808 ≤ p ∧ p ≤ 9223372036854775807) (bq : -9223372036854775808 ≤ q ∧ q ≤ 9223372036854775807) (br : -9223372036854775808 ≤ r ∧ r ≤ 9223372036854775807) (bs : -9223372036854775808 ≤ s ∧ s ≤ 9223372036854775807) (w : World) :
    Calls Try.prog 85 #[.agg #[.int .i64 p, .int .i64 q, .int .i64 r, .int .i64 s]] w fun e w' => e = .returned (.bool (dskB p q r s)) ∧ Below w.heap.size w w' := by
  cases h1 : amB p q
  · have e : dskB p q r s = false := by simp [dskB, h1]
    rw [e]; clear e
    go_enter Try.func85, Try.ntmps85
    (go_wp2_with fail; refine (good_spec p q _).mono ?_; rintro e w1 ⟨rfl, hb1⟩; rw [h1]; have ha1 := hb1; obtain ⟨kc1, kf1, kz1, ky1, kx1, kv1, ku1⟩ := bcell hb1)
    go_wp2
    go_ret
    refine ⟨rfl, ?_⟩
    (repeat (first | with_reducible exact Below.refl _ _ | with_reducible assumption | with_reducible refine balloc ?_ _ | with_reducible refine bdrew ?_ | with_reducible refine below_drewN ?_ _ | with_reducible refine bset ?_ ?_ _ | with_reducible exact Nat.le_refl _ | with_reducible refine bsize ?_ | (dsimp only; refine Nat.le_trans ?_ (Nat.le_add_right _ _)) | with_reducible refine Nat.le_trans ?_ (Nat.le_add_right _ _) | (with_reducible refine bstep ?_ (by assumption))))
  · have e : dskB p q r s = amB r s := by simp [dskB, h1]
    rw [e]; clear e
    go_enter Try.func85, Try.ntmps85
    (go_wp2_with fail; refine (good_spec p q _).mono ?_; rintro e w1 ⟨rfl, hb1⟩; rw [h1]; have ha1 := hb1; obtain ⟨kc1, kf1, kz1, ky1, kx1, kv1, ku1⟩ := bcell hb1)
    (go_wp2_with fail; refine (good_spec r s _).mono ?_; rintro e w2 ⟨rfl, hb2⟩; have ha2 := bjoin ha1 hb2 (by (repeat (first | with_reducible exact Below.refl _ _ | with_reducible assumption | with_reducible refine balloc ?_ _ | with_reducible refine bdrew ?_ | with_reducible refine below_drewN ?_ _ | with_reducible refine bset ?_ ?_ _ | with_reducible exact Nat.le_refl _ | with_reducible refine bsize ?_ | (dsimp only; refine Nat.le_trans ?_ (Nat.le_add_right _ _)) | with_reducible refine Nat.le_trans ?_ (Nat.le_add_right _ _) | (with_reducible refine bstep ?_ (by assumption))))); obtain ⟨kc2, kf2, kz2, ky2, kx2, kv2, ku2⟩ := bcell hb2; obtain ⟨jc2, jf2, jz2, jy2, jx2, jv2, ju2⟩ := bcell ha2)
    go_wp2
    go_ret
    refine ⟨rfl, ?_⟩
    (repeat (first | with_reducible exact Below.refl _ _ | with_reducible assumption | with_reducible refine balloc ?_ _ | with_reducible refine bdrew ?_ | with_reducible refine below_drewN ?_ _ | with_reducible refine bset ?_ ?_ _ | with_reducible exact Nat.le_refl _ | with_reducible refine bsize ?_ | (dsimp only; refine Nat.le_trans ?_ (Nat.le_add_right _ _)) | with_reducible refine Nat.le_trans ?_ (Nat.le_add_right _ _) | (with_reducible refine bstep ?_ (by assumption))))
set_option maxHeartbeats 400000 in
theorem dsk_pub (p q r s : Int) (bp : -9223372036854775808 ≤ p ∧ p ≤ 9223372036854775807) (bq : -9223372036854775808 ≤ q ∧ q ≤ 9223372036854775807) (br : -9223372036854775808 ≤ r ∧ r ≤ 9223372036854775807) (bs : -9223372036854775808 ≤ s ∧ s ≤ 9223372036854775807) (w : World) :
    Calls Try.prog 49 #[.agg #[.int .i64 p, .int .i64 q, .int .i64 r, .int .i64 s]] w fun e w' => e = .returned (.bool (dskB p q r s)) ∧ Below w.heap.size w w' := by
  go_enter Try.func49, Try.ntmps49
  (go_wp2_with fail; refine (dsk_spec p q r s bp bq br bs _).mono ?_; rintro e w1 ⟨rfl, hb1⟩; have ha1 := hb1; obtain ⟨kc1, kf1, kz1, ky1, kx1, kv1, ku1⟩ := bcell hb1)
  go_wp2
  go_ret
  refine ⟨rfl, ?_⟩
  (repeat (first | with_reducible exact Below.refl _ _ | with_reducible assumption | with_reducible refine balloc ?_ _ | with_reducible refine bdrew ?_ | with_reducible refine below_drewN ?_ _ | with_reducible refine bset ?_ ?_ _ | with_reducible exact Nat.le_refl _ | with_reducible refine bsize ?_ | (dsimp only; refine Nat.le_trans ?_ (Nat.le_add_right _ _)) | with_reducible refine Nat.le_trans ?_ (Nat.le_add_right _ _) | (with_reducible refine bstep ?_ (by assumption))))
end Go.Proofs.Ythebhljhlpfknaa
