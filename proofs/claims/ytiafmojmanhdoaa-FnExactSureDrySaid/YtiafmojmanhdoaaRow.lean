/- Rows that a call owns, and given lists of structs of whole numbers: what every law on such lists takes. -/
import Derived.Test.YtiafmojmanhdoaaBase
import Derived.Test.YtiafmojmanhdoaaLow
import Derived.WalkSmall
import Derived.OwnWalk
import Derived.OneCell
import Derived.Deep.Slices
import Derived.Deep.Fields
import Derived.ChangeSame
namespace Go.Proofs.Ytiafmojmanhdoaa
open Go.ChangeShapes Go.WideShapes Go.ChangeAt Go.RowKit Go.Joins
set_option maxRecDepth 100000
set_option linter.unusedVariables false
set_option linter.unusedSimpArgs false

/-- What a call does that makes blocks of its own, to a row that is there. -/
theorem ownsRow_below {w w' : World} {base e size n : Nat} {v : Value} {xs : List Value} (h : w.ownsRow base e size v n xs) (hb : Below w.heap.size w w') : w'.ownsRow base e size v n xs := by
  obtain ⟨h1, h⟩ := h
  rcases h with h | ⟨g', cap, cur, hv, hg, hh, r⟩
  · exact ⟨h1, Or.inl h⟩
  · have hlt : g' < w.heap.size := (Array.getElem?_eq_some_iff.1 hh).1
    exact ⟨h1, Or.inr ⟨g', cap, cur, hv, hg, by rw [hb.block g' hlt]; exact hh, r⟩⟩
theorem owns_shape {w : World} {base e size n : Nat} {v : Value} {xs : List Value} (h : w.ownsRow base e size v n xs) : ∃ a cap, v = .slice a n cap := by
  obtain ⟨_, h⟩ := h
  rcases h with ⟨rfl, rfl⟩ | ⟨g', cap, cur, rfl, _⟩
  · exact ⟨none, 0, rfl⟩
  · exact ⟨_, cap, rfl⟩
theorem own_lt {w : World} {base e size n o : Nat} {v : Value} {xs : List Value} (h : w.ownsRow base e size v n xs) (hg : v.ownBlock = some o) : o < w.heap.size := (h.lt o hg).2
theorem own_block {w : World} {base e size n g : Nat} {v : Value} {xs : List Value} (h : w.ownsRow base e size v n xs) (hg : v.ownBlock = some g) : base ≤ g := (h.lt g hg).1
theorem own_set {w : World} {base e size n : Nat} {v : Value} {xs : List Value} (h : w.ownsRow base e size v n xs) {p : Addr} (hne : v.ownBlock ≠ some p.block) (u : Value) : (w.setCell p u).ownsRow base e size v n xs := by
  obtain ⟨h1, h⟩ := h
  rcases h with h | ⟨g', cap, cur, hv, hg, hh, r⟩
  · exact ⟨h1, Or.inl h⟩
  · refine ⟨h1, Or.inr ⟨g', cap, cur, hv, hg, ?_, r⟩⟩
    rw [Below.heap_setCell w p u g' (by rintro rfl; exact hne (by rw [hv]; rfl))]
    exact hh
theorem own_mono {w : World} {base base' e size n : Nat} {v : Value} {xs : List Value} (h : w.ownsRow base e size v n xs) (hb : base' ≤ base) : w.ownsRow base' e size v n xs := by
  obtain ⟨h1, h⟩ := h
  rcases h with h | ⟨g', cap, cur, hv, hg, r⟩
  · exact ⟨h1, Or.inl h⟩
  · exact ⟨h1, Or.inr ⟨g', cap, cur, hv, by omega, r⟩⟩
theorem grown_trans {w w1 w2 : World} {row : Option Nat} (h1 : w.grownBy w1 row) (h2 : w1.grownBy w2 row) : w.grownBy w2 row :=
  ⟨h2.os.trans h1.os, h2.tape.trans h1.tape, h2.output.trans h1.output, Nat.le_trans h1.size h2.size, fun j hj hne => (h2.block j (Nat.lt_of_lt_of_le hj h1.size) hne).trans (h1.block j hj hne)⟩
theorem add_block (a : Addr) (j : Nat) : (a.add j).block = a.block := by unfold Addr.add; split <;> rfl
theorem cell_lt {w : World} {a : Addr} {v : Value} (h : w.cell? a = some v) : a.block < w.heap.size :=
  Decidable.byContradiction fun hn => by
    unfold World.cell? at h
    rw [Array.getElem?_eq_none (by omega)] at h
    simp at h

/-- The cells of a list of structs. -/
def cellsG {α : Type} (f : α → List Int) (l : List α) : List Value := l.flatMap fun x => (f x).map (Value.int .i64)
theorem cellsG_snoc {α : Type} (f : α → List Int) (l : List α) (x : α) : cellsG f (l ++ [x]) = cellsG f l ++ (f x).map (Value.int .i64) := by simp [cellsG]
theorem cellsG_cons {α : Type} (f : α → List Int) (l : List α) (x : α) : cellsG f (x :: l) = (f x).map (Value.int .i64) ++ cellsG f l := by simp [cellsG]
theorem cellsG_len {α : Type} {m : Nat} {f : α → List Int} (hm : ∀ x, (f x).length = m) (l : List α) : (cellsG f l).length = l.length * m := by
  induction l with
  | nil => simp [cellsG]
  | cons a l ih => rw [cellsG_cons, List.length_append, ih, List.length_map, hm, List.length_cons, Nat.add_mul]; omega
theorem cellsG_get {α : Type} {m : Nat} {f : α → List Int} (hm : ∀ x, (f x).length = m) (l : List α) (i : Nat) (x : α) (h : l[i]? = some x) (j : Nat) (y : Int) (hy : (f x)[j]? = some y) :
    (cellsG f l)[i * m + j]? = some (.int .i64 y) := by
  induction l generalizing i with
  | nil => simp at h
  | cons a l ih =>
    have hj : j < m := by have := (List.getElem?_eq_some_iff.1 hy).1; rw [hm] at this; exact this
    rw [cellsG_cons]
    cases i with
    | zero =>
      simp at h; subst h
      rw [Nat.zero_mul, Nat.zero_add, List.getElem?_append_left (by rw [List.length_map, hm]; exact hj)]
      simp [hy]
    | succ i =>
      rw [List.getElem?_append_right (by rw [List.length_map, hm, Nat.add_mul]; omega)]
      have e : (i + 1) * m + j - ((f a).map (Value.int .i64)).length = i * m + j := by rw [List.length_map, hm, Nat.add_mul]; omega
      rw [e]
      exact ih i (by simpa using h)
theorem cellsG_ext {α : Type} {m : Nat} {f : α → List Int} (hm : ∀ x, (f x).length = m) (h0 : 0 < m) (l : List α) (xs : List Value) (hlen : xs.length = l.length * m)
    (hall : ∀ (i : Nat) (x : α), l[i]? = some x → ∀ (j : Nat) (y : Int), (f x)[j]? = some y → xs[i * m + j]? = some (.int .i64 y)) : xs = cellsG f l := by
  apply List.ext_getElem?
  intro k
  by_cases hk : k < l.length * m
  · have hi : k / m < l.length := (Nat.div_lt_iff_lt_mul h0).2 hk
    have hx : l[k / m]? = some l[k / m] := List.getElem?_eq_getElem hi
    have hj : k % m < (f l[k / m]).length := by rw [hm]; exact Nat.mod_lt _ h0
    have hy := List.getElem?_eq_getElem hj
    have e : k / m * m + k % m = k := by have := Nat.div_add_mod k m; rw [Nat.mul_comm] at this; exact this
    have h1 := hall _ _ hx _ _ hy
    have h2 := cellsG_get hm l _ _ hx _ _ hy
    rw [e] at h1 h2
    rw [h1, h2]
  · rw [List.getElem?_eq_none (by omega), List.getElem?_eq_none (by rw [cellsG_len hm]; omega)]

/-- A given list of structs: where it lies, and what it reads. -/
structure LiesG {α : Type} (m : Nat) (f : α → List Int) (w : World) (a : Addr) (cap : Nat) (l : List α) : Prop where
  hlc : l.length ≤ cap
  hcap : cap ≤ 9223372036854775807
  hcell : ∀ (i : Nat) (p : α), l[i]? = some p → ∀ (j : Nat) (y : Int), (f p)[j]? = some y → w.cell? (a.add (i * m + j)) = some (.int .i64 y)
  hbd : ∀ p ∈ l, ∀ y ∈ f p, -9223372036854775808 ≤ y ∧ y ≤ 9223372036854775807
theorem liesG_below {α : Type} {m : Nat} {f : α → List Int} {w w' : World} {a : Addr} {cap : Nat} {l : List α} (h : LiesG m f w a cap l) (hb : Below w.heap.size w w') : LiesG m f w' a cap l :=
  ⟨h.hlc, h.hcap, fun i p hp j y hy => (hb.cell (cell_lt (h.hcell i p hp j y hy))).trans (h.hcell i p hp j y hy), h.hbd⟩
/-- A row that a call owns lies somewhere. -/
theorem liesG_own {α : Type} {m : Nat} {f : α → List Int} (hm : ∀ x, (f x).length = m) {w : World} {base e g cap : Nat} {l : List α} (h : w.ownsRow base e m (.slice (some ⟨g, 0, none⟩) l.length cap) l.length (cellsG f l))
    (hbd : ∀ p ∈ l, ∀ y ∈ f p, -9223372036854775808 ≤ y ∧ y ≤ 9223372036854775807) : LiesG m f w ⟨g, 0, none⟩ cap l := by
  have hc : l.length ≤ cap ∧ cap ≤ 9223372036854775807 := by
    obtain ⟨_, h⟩ := h
    rcases h with ⟨h1, _⟩ | ⟨g', cap', cur, hv, _, _, hle, hcap, _⟩
    · cases h1
    · injection hv with h1 h2 h3; subst h3; unfold maxLen at hcap; omega
  refine ⟨hc.1, hc.2, fun i p hp j y hy => ?_, hbd⟩
  have hi : i < l.length := (List.getElem?_eq_some_iff.1 hp).1
  have hj : j < m := by have := (List.getElem?_eq_some_iff.1 hy).1; rw [hm] at this; exact this
  have hlt : i * m + j < l.length * m := by
    have : (i + 1) * m ≤ l.length * m := Nat.mul_le_mul_right m (by omega)
    rw [Nat.add_mul] at this; omega
  have e : (⟨g, 0, none⟩ : Addr).add (i * m + j) = ⟨g, i * m + j, none⟩ := by unfold Addr.add; split <;> simp_all
  rw [e, h.cellAt _ hlt]
  exact cellsG_get hm l i p hp j y hy

/-- The ending of a copy. -/
def EndCopyG {α : Type} (ty m : Nat) (f : α → List Int) (l : List α) (w : World) (e : Ending) (w' : World) : Prop :=
  ∃ g, e = .returned (.slice (some ⟨g, 0, none⟩) l.length l.length) ∧ w'.ownsRow w.heap.size ty m (.slice (some ⟨g, 0, none⟩) l.length l.length) l.length (cellsG f l) ∧ Below w.heap.size w w'

/-- A law's argument that is a list of structs: none, or one that lies somewhere. -/
def AnyG {α : Type} (m : Nat) (f : α → List Int) (w : World) (v : Value) : Prop := v = .slice none 0 0 ∨ ∃ (a : Addr) (cap : Nat) (l : List α), v = .slice (some a) l.length cap ∧ LiesG m f w a cap l
theorem open_cellsG {α : Type} [Inhabited α] {m : Nat} {f : α → List Int} (hm : ∀ x, (f x).length = m) {ts te : TypeId} (ht : Try.prog.underlying ts = some (.slice te)) (hC : Try.prog.cellsOf te = m)
    {H : Type} {enc : TypeId × Value → H} {W : World} {base fuel : Nat} {spare : Nat → Bool} {held : Bool} {cs : List Value} {x : DataW H × List MemPlace}
    (hel : ∀ n cs x, DataW.trod enc Try.prog W base spare held n te cs = some x → ∃ p : α, cs = (f p).map (Value.int .i64) ∧ ∀ y ∈ f p, -9223372036854775808 ≤ y ∧ y ≤ 9223372036854775807)
    (hf : DataW.trod enc Try.prog W base spare held fuel ts cs = some x) : ∃ v, cs = [v] ∧ AnyG m f W v := by
  rcases Deep.open_slice ht hf with ⟨hc, _⟩ | ⟨a, len, cap, k, n, D, Pl, hc, hb, hl, hmx, hmm, hx, hi⟩
  · exact ⟨_, hc, Or.inl rfl⟩
  · refine ⟨_, hc, Or.inr ?_⟩
    have hlm : len ≤ k := by rw [hmm]; split <;> omega
    have hcell : ∀ i : Nat, ∃ q : α, i < len → (∀ (j : Nat) (y : Int), (f q)[j]? = some y → W.cell? (a.add (i * m + j)) = some (.int .i64 y)) ∧ ∀ y ∈ f q, -9223372036854775808 ≤ y ∧ y ≤ 9223372036854775807 := by
      intro i
      by_cases hi' : i < len
      · obtain ⟨cs', hcs, htr⟩ := hi i (by omega)
        rw [hC] at hcs
        obtain ⟨_, hcl, hat⟩ := World.cells?_some hcs
        obtain ⟨p, rfl, hp⟩ := hel _ _ _ htr
        refine ⟨p, fun _ => ⟨fun j y hy => ?_, hp⟩⟩
        have hj : j < m := by have := (List.getElem?_eq_some_iff.1 hy).1; rw [hm] at this; exact this
        have := hat j hj
        rw [Deep.add_add] at this
        rw [this]
        simp [hy]
      · exact ⟨default, fun h => absurd h hi'⟩
    obtain ⟨F, hF⟩ := Classical.axiomOfChoice hcell
    refine ⟨a, cap, (List.range len).map F, by simp, by simpa using hl, by unfold maxLen at hmx; omega, ?_, ?_⟩
    · intro i q hq
      have hlt : i < len := by have := (List.getElem?_eq_some_iff.1 hq).1; simpa using this
      have e : q = F i := by
        simp [hlt] at hq
        exact hq.symm
      subst e
      exact (hF i hlt).1
    · intro q hq
      simp only [List.mem_map, List.mem_range] at hq
      obtain ⟨i, hlt, rfl⟩ := hq
      exact (hF i hlt).2
theorem open_listG {α : Type} [Inhabited α] {m : Nat} {f : α → List Int} (hm : ∀ x, (f x).length = m) {ts te : TypeId} (ht : Try.prog.underlying ts = some (.slice te)) (hC : Try.prog.cellsOf te = m)
    {H : Type} {enc : TypeId × Value → H} {W : World} {base b0 : Nat} {spare : Nat → Bool} {held : Bool} {v : Value} {d : DataW H} {pl : List MemPlace}
    (hel : ∀ n cs x, DataW.trod enc Try.prog W base spare held n te cs = some x → ∃ p : α, cs = (f p).map (Value.int .i64) ∧ ∀ y ∈ f p, -9223372036854775808 ≤ y ∧ y ≤ 9223372036854775807)
    (hv : Value.okWide Try.prog W .any b0 ts v) (h : DataW.Trod enc Try.prog W base spare held ts v d pl) : AnyG m f W v := by
  obtain ⟨a0, len0, cap0, rfl⟩ := okWide_slice ht hv
  obtain ⟨fuel, hf⟩ := h
  obtain ⟨v, hv, ha⟩ := open_cellsG hm ht hC hel hf
  have e : Value.slice a0 len0 cap0 = v := by simpa [Value.cells] using hv
  rw [e]; exact ha
/-- A slice's length. -/
def lenV : Value → Nat | .slice _ k _ => k | _ => 0
theorem anyG_below {α : Type} {m : Nat} {f : α → List Int} {w w' : World} {v : Value} (h : AnyG m f w v) (hb : Below w.heap.size w w') : AnyG m f w' v := by
  rcases h with h | ⟨a, cap, l, h, hL⟩
  · exact Or.inl h
  · exact Or.inr ⟨a, cap, l, h, liesG_below hL hb⟩

theorem cellsInt : Try.prog.cellsOf 3 = 1 := by kernel_rfl
section
variable {H : Type} {enc : TypeId × Value → H} {W : World} {base fuel : Nat} {spare : Nat → Bool} {held : Bool} {cs : List Value} {x : DataW H × List MemPlace}
/-- The cells of one whole number. -/
theorem trod_cell (h : DataW.trod enc Try.prog W base spare held fuel 3 cs = some x) : ∃ y : Int, cs = [.int .i64 y] ∧ -9223372036854775808 ≤ y ∧ y ≤ 9223372036854775807 := by
  obtain ⟨a, e, _, wa⟩ := DataW.trod_int Try.underlying3 h
  exact ⟨a, e, int_bounds wa⟩
end
end Go.Proofs.Ytiafmojmanhdoaa
