/- The laws' draws: a reader of bytes; one number of it. -/
import Derived.Test.YtgpbkjakmbmccaaRow
import Derived.Deep.RegionHeld3
import Derived.Laws.Bits64b
namespace Go.Proofs.Ytgpbkjakmbmccaa
open Go.ChangeShapes Go.WideShapes Go.ChangeAt Go.RowKit Go.Joins
set_option maxRecDepth 100000
set_option linter.unusedVariables false
set_option linter.unusedSimpArgs false

/-- Bytes that are given: none, or some that lie somewhere. -/
def BytesAt (W : World) (v : Value) : Prop := v = .slice none 0 0 ∨ ∃ (a : Addr) (n cap : Nat), v = .slice (some a) n cap ∧ n ≤ cap ∧ cap ≤ 9223372036854775807 ∧ ∀ i : Nat, i < n → ∃ y : Int, W.cell? (a.add i) = some (.int .u8 y) ∧ 0 ≤ y ∧ y ≤ 255
theorem bytesAt_below {W W' : World} {v : Value} (h : BytesAt W v) (hb : Below W.heap.size W W') : BytesAt W' v := by
  rcases h with h | ⟨a, n, cap, h, h1, h2, h3⟩
  · exact Or.inl h
  · refine Or.inr ⟨a, n, cap, h, h1, h2, fun i hi => ?_⟩
    obtain ⟨y, hy, b1, b2⟩ := h3 i hi
    exact ⟨y, (hb.cell (cell_lt hy)).trans hy, b1, b2⟩
theorem cellsByte : Try.prog.cellsOf 5 = 1 := by kernel_rfl
theorem byte_bounds {x : Int} (h : (Lit.int .u8 x).wf = true) : 0 ≤ x ∧ x ≤ 255 := by
  simpa [Lit.wf, IntKind.min, IntKind.max, IntKind.signed, IntKind.bits] using h
theorem open_bytes {H : Type} {enc : TypeId × Value → H} {W : World} {base b0 : Nat} {spare : Nat → Bool} {held : Bool} {v : Value} {d : DataW H} {pl : List MemPlace}
    (hv : Value.okWide Try.prog W .any b0 22 v) (h : DataW.Trod enc Try.prog W base spare held 22 v d pl) : BytesAt W v := by
  obtain ⟨a0, len0, cap0, rfl⟩ := okWide_slice Try.underlying22 hv
  obtain ⟨fuel, hf⟩ := h
  rcases Deep.open_slice Try.underlying22 hf with ⟨hc, _⟩ | ⟨a, len, cap, k, n, D, Pl, hc, hb, hl, hmx, hmm, hx, hi⟩
  · left; simpa [Value.cells] using hc
  · right
    have hlm : len ≤ k := by rw [hmm]; split <;> omega
    have e : Value.slice a0 len0 cap0 = .slice (some a) len cap := by simpa [Value.cells] using hc
    refine ⟨a, len, cap, e, by simpa using hl, by unfold maxLen at hmx; omega, fun i hi' => ?_⟩
    obtain ⟨cs', hcs, htr⟩ := hi i (by omega)
    rw [cellsByte] at hcs
    obtain ⟨_, hcl, hat⟩ := World.cells?_some hcs
    obtain ⟨y, rfl, _, wy⟩ := DataW.trod_int Try.underlying5 htr
    have h0 := hat 0 (by omega)
    rw [Deep.add_add] at h0
    refine ⟨y, ?_, byte_bounds wy⟩
    simpa using h0
/-- The reader in block b: its bytes, how many numbers were read, and its seed. -/
def CurAt (b : Nat) (v : Value) (N : Nat) (w : World) : Prop := ∃ (k : Nat) (s : Int), w.cell? ⟨b, 0, none⟩ = some v ∧ w.cell? ⟨b, 1, none⟩ = some (.int .i64 k) ∧ w.cell? ⟨b, 2, none⟩ = some (.int .u64 s) ∧ w.frozen? ⟨b, 1, none⟩ = false ∧ w.frozen? ⟨b, 2, none⟩ = false ∧ b < w.heap.size ∧ k ≤ N
/-- What a call keeps that writes into the reader alone: every older world's memory, and the bytes. -/
def CurKeep (b : Nat) (w w' : World) : Prop := (∀ w0 : World, w0.heap.size ≤ b → Below w0.heap.size w0 w → Below w0.heap.size w0 w') ∧ ∀ (g o : Nat), g ≠ b → g < w.heap.size → w'.cell? ⟨g, o, none⟩ = w.cell? ⟨g, o, none⟩
theorem seed_byte (X : Int) : 0 ≤ wrap64 (bits BinOp.and IntKind.u64 (IntKind.u64.wrap X / 1099511627776) 255) ∧ wrap64 (bits BinOp.and IntKind.u64 (IntKind.u64.wrap X / 1099511627776) 255) ≤ 255 := by
  obtain ⟨m, hm, hlt⟩ : ∃ m : Nat, IntKind.u64.wrap X = m ∧ m < 18446744073709551616 := by
    rw [IntKind.wrap_u64]
    exact ⟨(X % 18446744073709551616).toNat, by omega, by omega⟩
  rw [hm, show ((m : Int) / 1099511627776) = ((m / 1099511627776 : Nat) : Int) by omega, show (255 : Int) = ((255 : Nat) : Int) by rfl, bits_and_u64_nat _ _ (by omega) (by omega)]
  have h := Nat.and_le_right (n := m / 1099511627776) (m := 255)
  generalize (m / 1099511627776) &&& 255 = q at *
  unfold wrap64
  omega
set_option maxHeartbeats 1600000 in
theorem next_c (b : Nat) (v : Value) (N : Nat) (hN : N ≤ 1000000) (w w0 : World) (hw0 : w0.heap.size ≤ b) (hb0 : Below w0.heap.size w0 w) (hv : BytesAt w0 v) (hC : CurAt b v N w) :
    Calls Try.prog 83 #[.pointer (some ⟨b, 0, none⟩)] w fun e w' => (∃ x : Int, e = .returned (.int .i64 x) ∧ 0 ≤ x ∧ x ≤ 255) ∧ CurAt b v (N + 1) w' ∧ CurKeep b w w' := by
  have hv2 := bytesAt_below hv hb0
  obtain ⟨k, s, c0, c1, c2, f1, f2, bz, hk⟩ := hC
  obtain ⟨a, n, cap, rfl, hn⟩ : ∃ (a : Option Addr) (n cap : Nat), v = .slice a n cap ∧ n ≤ 9223372036854775807 := by
    rcases hv2 with h | ⟨a, n, cap, h, h1, h2, _⟩
    · exact ⟨none, 0, 0, h, by omega⟩
    · exact ⟨some a, n, cap, h, by omega⟩
  have hcell : ∀ i : Nat, i < n → ∃ (g : Addr) (y : Int), a = some g ∧ w.cell? (g.add i) = some (.int .u8 y) ∧ 0 ≤ y ∧ y ≤ 255 := by
    intro i hi
    rcases hv2 with h | ⟨a', n', cap', h, h1, h2, h3⟩
    · injection h with e1 e2 e3; omega
    · injection h with e1 e2 e3
      subst e1 e2
      obtain ⟨y, hy⟩ := h3 i hi
      exact ⟨a', y, rfl, hy⟩
  go_enter Try.func83, Try.ntmps83
  by_cases hlt : k < n
  · obtain ⟨g, y, rfl, hy, y0, y1⟩ := hcell k hlt
    clear hcell hv hv2
    go_wp2
    all_goals (try go_region)
    all_goals (try go_wp2)
    all_goals (try go_region)
    all_goals (try go_wp2)
    all_goals (try go_region)
    all_goals (try go_wp2)
    all_goals go_ret
    all_goals refine ⟨⟨_, rfl, by first | assumption | omega | exact (seed_byte _).1, by first | assumption | omega | exact (seed_byte _).2⟩, ⟨k + 1, _, by first | (simp [go_sem, c0, c1, c2, f1, f2, bz]; done), by first | (simp [go_sem, c0, c1, c2, f1, f2, bz]; done), by first | (simp [go_sem, c0, c1, c2, f1, f2, bz]; rfl) | (simp [go_sem, c0, c1, c2, f1, f2, bz]; done), by simp [go_sem, f1, f2, bz], by simp [go_sem, f1, f2, bz], by simpa using bz, by omega⟩, ⟨fun w1 hb h => by (repeat (first | exact h | refine bdrew ?_ | refine bset ?_ hb _)), fun g' o hg hz => by have hg2 : b ≠ g' := fun e => hg e.symm; simp [go_sem, hg, hg2]⟩⟩
  · clear hcell hv hv2
    go_wp2
    all_goals (try go_region)
    all_goals (try go_wp2)
    all_goals (try go_region)
    all_goals (try go_wp2)
    all_goals go_ret
    all_goals refine ⟨⟨_, rfl, by first | assumption | omega | exact (seed_byte _).1, by first | assumption | omega | exact (seed_byte _).2⟩, ⟨k + 1, _, by first | (simp [go_sem, c0, c1, c2, f1, f2, bz]; done), by first | (simp [go_sem, c0, c1, c2, f1, f2, bz]; done), by first | (simp [go_sem, c0, c1, c2, f1, f2, bz]; rfl) | (simp [go_sem, c0, c1, c2, f1, f2, bz]; done), by simp [go_sem, f1, f2, bz], by simp [go_sem, f1, f2, bz], by simpa using bz, by omega⟩, ⟨fun w1 hb h => by (repeat (first | exact h | refine bdrew ?_ | refine bset ?_ hb _)), fun g' o hg hz => by have hg2 : b ≠ g' := fun e => hg e.symm; simp [go_sem, hg, hg2]⟩⟩
end Go.Proofs.Ytgpbkjakmbmccaa
