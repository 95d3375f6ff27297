/- Plain facts on amounts (no program): greatest common divisors, lowest terms, cross products. -/
import Derived.WalkKit
import Derived.Deep.Draws
namespace Go.Proofs.Ytiafmojmanhdoaa
open Go.RowKit

/-- The greatest common divisor, as an Int. -/
def gi (a b : Int) : Int := ((Int.gcd a b : Nat) : Int)

theorem gcd_emod' (a b : Int) : Int.gcd (a % b) b = Int.gcd a b := by
  have h : a % b = a - b * (a / b) := by rw [Int.emod_def]
  rw [h, Int.gcd_comm, Int.gcd_comm a]
  exact Int.gcd_sub_mul_left_right _ _ _

theorem gi_zero (a : Int) (h : 0 ≤ a) : gi a 0 = a := by unfold gi; rw [Int.gcd_zero_right]; omega
theorem gi_step (a b : Int) : gi b (a % b) = gi a b := by
  unfold gi; rw [Int.gcd_comm b, gcd_emod']
theorem gi_pos (a b : Int) (h : b ≠ 0) : 1 ≤ gi a b := by
  unfold gi; have : 0 < Int.gcd a b := Int.gcd_pos_of_ne_zero_right _ h; omega
theorem gi_le (a b : Int) (h : 1 ≤ b) : gi a b ≤ b := by
  unfold gi; exact Int.le_of_dvd (by omega) (Int.gcd_dvd_right _ _)
theorem gi_dvd_left (a b : Int) : gi a b ∣ a := Int.gcd_dvd_left _ _
theorem gi_dvd_right (a b : Int) : gi a b ∣ b := Int.gcd_dvd_right _ _

/-- Lowest terms: is there an amount? -/
def lowB (n d : Int) : Bool := decide (0 ≤ n ∧ 1 ≤ d ∧ n / gi n d ≤ 1000000000 ∧ d / gi n d ≤ 1000000000)
def lowN (n d : Int) : Int := if lowB n d = true then n / gi n d else 0
def lowD (n d : Int) : Int := if lowB n d = true then d / gi n d else 0

/-- Is it an amount? -/
def amB (n d : Int) : Bool := decide (0 ≤ n ∧ n ≤ 1000000000 ∧ 1 ≤ d ∧ d ≤ 1000000000 ∧ gi n d = 1)

theorem amB_iff (n d : Int) : amB n d = true ↔ 0 ≤ n ∧ n ≤ 1000000000 ∧ 1 ≤ d ∧ d ≤ 1000000000 ∧ gi n d = 1 := by simp [amB]
theorem lowB_iff (n d : Int) : lowB n d = true ↔ 0 ≤ n ∧ 1 ≤ d ∧ n / gi n d ≤ 1000000000 ∧ d / gi n d ≤ 1000000000 := by simp [lowB]

theorem low_coprime (n d : Int) (hd : 1 ≤ d) : gi (n / gi n d) (d / gi n d) = 1 := by
  unfold gi
  have h : 0 < Int.gcd n d := Int.gcd_pos_of_ne_zero_right _ (by omega)
  have := Int.gcd_ediv_gcd_ediv_gcd h
  omega
theorem amB_low (n d : Int) (h : lowB n d = true) : amB (lowN n d) (lowD n d) = true := by
  have hl := (lowB_iff n d).1 h
  have hg := gi_pos n d (by omega)
  rw [amB_iff]; unfold lowN lowD; rw [if_pos h, if_pos h]
  refine ⟨Int.ediv_nonneg hl.1 (by omega), hl.2.2.1, ?_, hl.2.2.2, low_coprime n d hl.2.1⟩
  have := gi_le n d hl.2.1
  exact (Int.le_ediv_iff_mul_le (by omega)).2 (by omega)
/-- An amount is its own lowest terms. -/
theorem low_am (n d : Int) (h : amB n d = true) : lowB n d = true ∧ lowN n d = n ∧ lowD n d = d := by
  have ha := (amB_iff n d).1 h
  have hb : lowB n d = true := by rw [lowB_iff, ha.2.2.2.2]; simp; omega
  refine ⟨hb, ?_, ?_⟩
  · unfold lowN; rw [if_pos hb, ha.2.2.2.2]; simp
  · unfold lowD; rw [if_pos hb, ha.2.2.2.2]; simp
/-- What impl.IsAmount looks at. -/
theorem am_of_low (n d : Int) : (lowB n d && (lowN n d == n && lowD n d == d)) = amB n d := by
  cases h : amB n d
  · cases hb : lowB n d
    · rfl
    · cases hn : (lowN n d == n && lowD n d == d)
      · rfl
      · have ha := amB_low n d hb
        simp only [Bool.and_eq_true, beq_iff_eq] at hn
        rw [hn.1, hn.2, h] at ha
        exact absurd ha (by simp)
  · obtain ⟨h1, h2, h3⟩ := low_am n d h
    rw [h1, h2, h3]; simp
theorem lowN_no (n d : Int) (h : lowB n d = false) : lowN n d = 0 := by unfold lowN; rw [h]; rfl
theorem lowD_no (n d : Int) (h : lowB n d = false) : lowD n d = 0 := by unfold lowD; rw [h]; rfl

theorem ret_int {k : IntKind} {a b : Int} (h : a = b) : Ending.returned (.int k a) = .returned (.int k b) := by rw [h]

/-! a block is older than those that a few steps make (the walk's own form of their numbers) -/
@[go_sem, simp] theorem ltk2 (n : Nat) : n < n + 1 + 1 := by omega
@[go_sem, simp] theorem ltk3 (n : Nat) : n < n + 1 + 1 + 1 := by omega
@[go_sem, simp] theorem ltk4 (n : Nat) : n < n + 1 + 1 + 1 + 1 := by omega
@[go_sem, simp] theorem ltk5 (n : Nat) : n < n + 1 + 1 + 1 + 1 + 1 := by omega
@[go_sem, simp] theorem ltk6 (n : Nat) : n < n + 1 + 1 + 1 + 1 + 1 + 1 := by omega
@[go_sem, simp] theorem ltk7 (n : Nat) : n < n + 1 + 1 + 1 + 1 + 1 + 1 + 1 := by omega
@[go_sem, simp] theorem ltk8 (n : Nat) : n < n + 1 + 1 + 1 + 1 + 1 + 1 + 1 + 1 := by omega
@[go_sem, simp] theorem ltk9 (n : Nat) : n < n + 1 + 1 + 1 + 1 + 1 + 1 + 1 + 1 + 1 := by omega
@[go_sem, simp] theorem ltk10 (n : Nat) : n < n + 1 + 1 + 1 + 1 + 1 + 1 + 1 + 1 + 1 + 1 := by omega
@[go_sem, simp] theorem ltk11 (n : Nat) : n < n + 1 + 1 + 1 + 1 + 1 + 1 + 1 + 1 + 1 + 1 + 1 := by omega
@[go_sem, simp] theorem ltk12 (n : Nat) : n < n + 1 + 1 + 1 + 1 + 1 + 1 + 1 + 1 + 1 + 1 + 1 + 1 := by omega
/-- What a call that made blocks of its own has left: old cells and marks read as they did, and there are no fewer blocks. -/
theorem bcell {W w1 : World} (hb : Below W.heap.size W w1) : (∀ b o, b < W.heap.size → w1.cell? ⟨b, o, none⟩ = W.cell? ⟨b, o, none⟩) ∧ (∀ b o, b < W.heap.size → w1.frozen? ⟨b, o, none⟩ = W.frozen? ⟨b, o, none⟩) ∧
    (∀ k, k < W.heap.size → k < w1.heap.size) ∧ (∀ k, k < W.heap.size → k < w1.heap.size + 1) ∧ (∀ k, k < W.heap.size → k < w1.heap.size + 2) ∧ (∀ k, k < W.heap.size → k < w1.heap.size + 3) ∧ ∀ k, k < W.heap.size → k < w1.heap.size + 4 :=
  ⟨fun b o h => hb.cell (p := ⟨b, o, none⟩) h, fun b o h => hb.frozen (p := ⟨b, o, none⟩) h, fun _ h => Nat.lt_of_lt_of_le h hb.size, fun _ h => by have := hb.size; omega, fun _ h => by have := hb.size; omega, fun _ h => by have := hb.size; omega, fun _ h => by have := hb.size; omega⟩
theorem bstep {a W w1 : World} (h0 : Below a.heap.size a W) (hb : Below W.heap.size W w1) : Below a.heap.size a w1 := h0.trans (hb.mono h0.size)
/-- A cell of an elder world behind one call more. -/
theorem keepc {W0 wp w1 : World} {b o : Nat} {v : Value} (hb : Below wp.heap.size wp w1) (h0 : Below W0.heap.size W0 wp) (hlt : b < W0.heap.size) (hc : W0.cell? ⟨b, o, none⟩ = some v) : w1.cell? ⟨b, o, none⟩ = some v := by
  rw [(h0.trans (hb.mono h0.size)).cell (p := ⟨b, o, none⟩) hlt]; exact hc
theorem keepa {W0 wp : World} {b o : Nat} {v : Value} (h0 : Below W0.heap.size W0 wp) (hlt : b < W0.heap.size) (hc : W0.cell? ⟨b, o, none⟩ = some v) : wp.cell? ⟨b, o, none⟩ = some v := by
  rw [h0.cell (p := ⟨b, o, none⟩) hlt]; exact hc
theorem bjoin {a w1 W w2 : World} (h1 : Below a.heap.size a w1) (h2 : Below W.heap.size W w2) (h : Below w1.heap.size w1 W) : Below a.heap.size a w2 := bstep (h1.trans (h.mono h1.size)) h2
theorem bstepr {a W w1 : World} (hb : Below W.heap.size W w1) (h0 : Below a.heap.size a W) : Below a.heap.size a w1 := bstep h0 hb
theorem balloc {a W : World} (h0 : Below a.heap.size a W) (o : Obj) : Below a.heap.size a (W.alloc o) := h0.alloc h0.size o
theorem bset {a W : World} (h0 : Below a.heap.size a W) {p : Addr} (hp : a.heap.size ≤ p.block) (u : Value) : Below a.heap.size a (W.setCell p u) := h0.setCell hp u
theorem bdrew {a W : World} (h0 : Below a.heap.size a W) : Below a.heap.size a W.drew := h0.drew
theorem bsize {a W : World} (h0 : Below a.heap.size a W) : a.heap.size ≤ W.heap.size := h0.size
theorem below_drewN {B : Nat} {a w : World} (h : Below B a w) (n : Nat) : Below B a (w.drewN n) := ⟨h.os, h.tape, h.output, h.size, h.block⟩
end Go.Proofs.Ytiafmojmanhdoaa
