/- The model's amParse. -/
import Derived.Test.YtffafiidblamkaaDoorParseI
namespace Go.Proofs.YtffafiidblamkaaDoor
open Go.ChangeShapes Go.WideShapes Go.ChangeAt Go.RowKit Go.Joins
set_option maxRecDepth 100000
set_option linter.unusedVariables false
set_option linter.unusedSimpArgs false

theorem spA_len (b : UInt8) : ∀ (l cur : List UInt8), ∀ x ∈ spA b cur l, x.length ≤ cur.length + l.length := by
  intro l
  induction l with
  | nil => intro cur x hx; simp [spA] at hx; subst hx; simp
  | cons c l ih =>
    intro cur x hx
    rw [spA] at hx
    split at hx
    · rcases List.mem_cons.1 hx with e | e
      · subst e; omega
      · have := ih [] x e; simp at this ⊢; omega
    · have := ih _ x hx; simp at this ⊢; omega
theorem spl_len (b : UInt8) (l : List UInt8) : ∀ x ∈ spl b l, x.length ≤ l.length := fun x hx => by
  have := spA_len b l [] x hx
  simpa using this
theorem split_cells (s : ByteArray) (b : UInt8) (hs : s.size ≤ 1000000) (w : World) :
    Calls Tryd.prog 35 #[.string s, .int .u8 (b.toNat : Int)] w fun e w' => ∃ g cap, e = .returned (.slice (some ⟨g, 0, none⟩) (spl b s.data.toList).length cap) ∧ (∀ i x, (spl b s.data.toList)[i]? = some x → w'.cell? ⟨g, i, none⟩ = some (pieceV x)) ∧ Below w.heap.size w w' := by
  refine (split_spec s b hs w).mono ?_
  rintro e w' ⟨v, rfl, hown, hb⟩
  have hown' := hown
  obtain ⟨hl, hr⟩ := hown
  rcases hr with ⟨_, h0⟩ | ⟨g, cap, cur, rfl, _⟩
  · exact absurd (List.length_eq_zero_iff.1 h0) (spl_ne b _)
  · refine ⟨g, cap, rfl, fun i x hx => ?_, hb⟩
    have hi := (List.getElem?_eq_some_iff.1 hx).1
    rw [hown'.cellAt i (by omega)]
    unfold cellsS
    rw [List.getElem?_map, hx]
    rfl
theorem read_piece (l : List UInt8) (h : l.length ≤ 1000000) (w : World) :
    Calls Tryd.prog 36 #[.string ⟨l.toArray⟩] w fun e w' => e = .returned (.int .i64 (rdI l)) ∧ w = w' := read_spec ⟨l.toArray⟩ (show l.length ≤ 9223372036854775807 by omega) w
theorem ap_none (l : List UInt8) (h : apV l = none) : apN l = 0 ∧ apD l = 0 ∧ apB l = false := by
  unfold apN apD apB; rw [h]; exact ⟨rfl, rfl, rfl⟩
theorem ap_some (l : List UInt8) (n d : Int) (h : apV l = some (n, d)) : apN l = n ∧ apD l = d ∧ apB l = true := by
  unfold apN apD apB; rw [h]; exact ⟨rfl, rfl, rfl⟩
theorem rdI_no (l : List UInt8) (h : rdB l = false) : rdI l = -1 := by unfold rdI; rw [h]; rfl
theorem rdI_yes (l : List UInt8) (h : rdB l = true) : rdI l = rdG l ∧ 0 ≤ rdG l ∧ rdG l ≤ 999999 := by
  obtain ⟨_, a, b⟩ := rdB_dec l h
  unfold rdI; rw [if_pos h]; exact ⟨rfl, a, b⟩
end Go.Proofs.YtffafiidblamkaaDoor
