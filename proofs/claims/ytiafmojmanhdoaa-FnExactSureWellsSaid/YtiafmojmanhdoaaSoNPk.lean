/- Puzzles: a mile is a sure well or a sure dry mile by how often it is told in all lists; the box of the counts. -/
import Derived.Test.YtiafmojmanhdoaaSoKPk
import Derived.Test.YtiafmojmanhdoaaSoJPk
namespace Go.Proofs.Ytiafmojmanhdoaa
open Go.ChangeShapes Go.WideShapes Go.ChangeAt Go.RowKit Go.Joins
set_option maxRecDepth 100000
set_option linter.unusedVariables false
set_option linter.unusedSimpArgs false

theorem ris_count {m : Int} : ∀ {b : Int} {l : List Int}, risB m b l = true → ∀ x : Int, l.count x = if hasB l x = true then 1 else 0
  | b, [], _, x => by simp [hasB]
  | b, y :: l, h, x => by
    obtain ⟨h1, h2, h3⟩ := risB_cons h
    have ih := ris_count h3 x
    have hg : ∀ z ∈ l, y + 1 ≤ z := fun z hz => (ris_bd h3 z hz).1
    rw [List.count_cons, ih]
    by_cases hyx : y = x
    · have hn : hasB l x = false := by
        cases hb : hasB l x
        · rfl
        · simp only [hasB, List.any_eq_true, decide_eq_true_eq] at hb
          obtain ⟨z, hz, hzx⟩ := hb
          have := hg z hz
          omega
      rw [hn]
      simp [hasB, hyx]
    · have e : hasB (y :: l) x = hasB l x := by simp [hasB, hyx]
      rw [e]
      simp [hyx]
theorem flat_count {m : Int} (L : List (List Int)) (hL : ∀ ws ∈ L, risB m 0 ws = true) (x : Int) : L.flatten.count x = (L.filter (fun ws => hasB ws x)).length := by
  induction L with
  | nil => simp
  | cons ws t ih =>
    rw [List.flatten_cons, List.count_append, ih (fun u hu => hL u (List.mem_cons_of_mem _ hu)), ris_count (hL ws (List.mem_cons_self ..)) x, List.filter_cons]
    by_cases h : hasB ws x = true
    · rw [if_pos h, if_pos h, List.length_cons]; omega
    · rw [if_neg h, if_neg h]; omega
theorem sure_count {m : Int} (L : List (List Int)) (hL : ∀ ws ∈ L, risB m 0 ws = true) (wet : Bool) (x : Int) :
    sureAt L wet x = decide (L.flatten.count x = if wet = true then L.length else 0) := by
  rw [flat_count L hL x, Bool.eq_iff_iff, decide_eq_true_eq]
  cases wet
  · rw [if_neg (by simp), List.length_eq_zero_iff, List.filter_eq_nil_iff]
    simp [sureAt]
  · rw [if_pos rfl, List.length_filter_eq_length_iff]
    simp [sureAt]
/-- The box of ten counts. -/
def cntC (l : List Int) : Array Value := ((List.range 10).map (fun (i : Nat) => Value.int .i64 ((l.count (i : Int) : Nat) : Int))).toArray
theorem cntC_nil : cntC [] = #[.int .i64 0, .int .i64 0, .int .i64 0, .int .i64 0, .int .i64 0, .int .i64 0, .int .i64 0, .int .i64 0, .int .i64 0, .int .i64 0] := by
  simp [cntC, List.range_succ, List.range_zero]
theorem cntC_get (l : List Int) {j : Nat} (hj : j < 10) : (cntC l)[j]? = some (.int .i64 ((l.count (j : Int) : Nat) : Int)) := by
  simp [cntC, hj]
theorem cntC_put {W : World} {g : Nat} {F : List Int} {k j : Nat} {t : TypeId} (h : Blk g (cntC (F.take k)) t W) (hp : F[k]? = some (j : Int)) (hj : j < 10) {c : Nat} (hc : (F.take k).count (j : Int) = c) :
    Blk g (cntC (F.take (k + 1))) t (W.setCell ⟨g, j, none⟩ (.int .i64 ((c : Int) + 1))) := by
  unfold Blk at *
  have e : (cntC (F.take k)).setIfInBounds j (.int .i64 ((c : Int) + 1)) = cntC (F.take (k + 1)) := by
    apply Array.ext
    · simp [cntC]
    · intro i h1 h2
      have hi : i < 10 := by simpa [cntC] using h2
      rw [Array.getElem_setIfInBounds]
      simp only [cntC, List.getElem_toArray, List.getElem_map, List.getElem_range]
      rw [List.take_add_one, hp]
      simp only [Option.toList_some, List.count_append, List.count_singleton]
      by_cases hij : j = i
      · subst hij; simp [hc]
      · rw [if_neg hij]
        have : ¬ ((j : Int) = (i : Int)) := by omega
        simp [this]
      all_goals simpa [cntC] using hi
  simp only [World.setCell, Array.getElem?_modify, h]
  simp [e]
end Go.Proofs.Ytiafmojmanhdoaa
