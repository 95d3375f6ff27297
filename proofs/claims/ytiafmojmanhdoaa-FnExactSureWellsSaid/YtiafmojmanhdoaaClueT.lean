/- Clues: the laws' argument opened; lists of clues. -/
import Derived.Test.YtiafmojmanhdoaaRowG
import Derived.Test.YtiafmojmanhdoaaRowS
import Derived.Test.YtiafmojmanhdoaaLawBase
namespace Go.Proofs.Ytiafmojmanhdoaa
open Go.ChangeShapes Go.WideShapes Go.ChangeAt Go.RowKit Go.Joins
set_option maxRecDepth 100000
set_option linter.unusedVariables false
set_option linter.unusedSimpArgs false


/-- A clue: its kind, and its two numbers. -/
structure ClueV where
  k : Int
  a : Int
  b : Int
instance : Inhabited ClueV := ⟨⟨0, 0, 0⟩⟩
def fClue (p : ClueV) : List Int := [p.k, p.a, p.b]
theorem fClue_len (p : ClueV) : (fClue p).length = 3 := rfl
theorem cellsClue : Try.prog.cellsOf 23 = 3 := by kernel_rfl
section
variable {H : Type} {enc : TypeId × Value → H} {W : World} {base fuel : Nat} {spare : Nat → Bool} {held : Bool} {cs : List Value} {x : DataW H × List MemPlace}
theorem trod_struct3 {P : Program} {t : TypeId} {f0 f1 f2 : Field} {w : World} (ht : P.underlying t = some (.struct #[f0, f1, f2])) (h : DataW.trod enc P w base spare held fuel t cs = some x) :
    ∃ y0 y1 y2 n, x = (.agg [y0.1, y1.1, y2.1], y0.2 ++ (y1.2 ++ y2.2)) ∧ cs.length = P.cellsOf t ∧ DataW.trod enc P w base spare held n f0.type ((cs.drop f0.offset).take (P.cellsOf f0.type)) = some y0 ∧
      DataW.trod enc P w base spare held n f1.type ((cs.drop f1.offset).take (P.cellsOf f1.type)) = some y1 ∧ DataW.trod enc P w base spare held n f2.type ((cs.drop f2.offset).take (P.cellsOf f2.type)) = some y2 := by
  obtain ⟨xs, n, _, rfl, hl, hlen, hf⟩ := DataW.trod_struct ht h
  match xs, hlen with
  | [y0, y1, y2], _ => exact ⟨y0, y1, y2, n, by simp, hl, by simpa using hf 0 f0 rfl, by simpa using hf 1 f1 rfl, by simpa using hf 2 f2 rfl⟩
theorem trod_clue (h : DataW.trod enc Try.prog W base spare held fuel 23 cs = some x) :
    ∃ p : ClueV, cs = (fClue p).map (Value.int .i64) ∧ ∀ y ∈ fClue p, -9223372036854775808 ≤ y ∧ y ≤ 9223372036854775807 := by
  obtain ⟨y0, y1, y2, n', _, hl, h0, h1, h2⟩ := trod_struct3 Try.underlying23 h
  rw [cellsClue] at hl
  obtain ⟨p, e0, bp⟩ := trod_cell h0
  obtain ⟨q, e1, bq⟩ := trod_cell h1
  obtain ⟨r, e2, br⟩ := trod_cell h2
  match cs, hl with
  | [c0, c1, c2], _ =>
    simp [cellsInt] at e0 e1 e2
    subst e0 e1 e2
    exact ⟨⟨p, q, r⟩, rfl, by simp [fClue]; exact ⟨bp, bq, br⟩⟩
theorem open_clue {b0 : Nat} {v : Value} {d : DataW H} {pl : List MemPlace} (hv : Value.okWide Try.prog W .any b0 23 v) (h : DataW.Trod enc Try.prog W base spare held 23 v d pl) :
    ∃ k n m : Int, v = .agg #[.int .i64 k, .int .i64 n, .int .i64 m] ∧ (-9223372036854775808 ≤ k ∧ k ≤ 9223372036854775807) ∧ (-9223372036854775808 ≤ n ∧ n ≤ 9223372036854775807) ∧ -9223372036854775808 ≤ m ∧ m ≤ 9223372036854775807 := by
  obtain ⟨cs, rfl, _⟩ := okWide_struct Try.underlying23 hv
  obtain ⟨fuel, hf⟩ := h
  obtain ⟨p, hc, hb⟩ := trod_clue hf
  obtain ⟨cs⟩ := cs
  simp [Value.cells, fClue] at hc hb
  subst hc
  exact ⟨p.k, p.a, p.b, rfl, hb⟩
end
set_option maxHeartbeats 400000 in
theorem toClue (k n d : Int) (w : World) :
    Calls Try.prog 15 #[.agg #[.int .i64 k, .int .i64 n, .int .i64 d]] w fun e w' => e = .returned (.agg #[.int .i64 k, .int .i64 n, .int .i64 d]) ∧ Below w.heap.size w w' := by
  go_enter Try.func15, Try.ntmps15
  go_wp2
  refine bodyPost_ret (v := .agg #[.int .i64 k, .int .i64 n, .int .i64 d]) (by simp [results, Try.results15, go_sem]) rfl ⟨rfl, ?_⟩
  (repeat (first | with_reducible exact Below.refl _ _ | with_reducible assumption | with_reducible refine balloc ?_ _ | with_reducible refine bdrew ?_ | with_reducible refine below_drewN ?_ _ | with_reducible refine bset ?_ ?_ _ | with_reducible exact Nat.le_refl _ | with_reducible refine bsize ?_ | (dsimp only; refine Nat.le_trans ?_ (Nat.le_add_right _ _)) | with_reducible refine Nat.le_trans ?_ (Nat.le_add_right _ _) | (with_reducible refine bstep ?_ (by assumption))))
theorem eqClue_same (k n d : Int) (w : World) :
    Calls Try.prog 96 #[.agg #[.int .i64 k, .int .i64 n, .int .i64 d], .agg #[.int .i64 k, .int .i64 n, .int .i64 d]] w fun e w' => e = .returned (.bool true) ∧ Below w.heap.size w w' := by
  go_enter Try.func96, Try.ntmps96
  go_wp2
  go_ret
  refine ⟨rfl, ?_⟩
  (repeat (first | with_reducible exact Below.refl _ _ | with_reducible assumption | with_reducible refine balloc ?_ _ | with_reducible refine bdrew ?_ | with_reducible refine below_drewN ?_ _ | with_reducible refine bset ?_ ?_ _ | with_reducible exact Nat.le_refl _ | with_reducible refine bsize ?_ | (dsimp only; refine Nat.le_trans ?_ (Nat.le_add_right _ _)) | with_reducible refine Nat.le_trans ?_ (Nat.le_add_right _ _) | (with_reducible refine bstep ?_ (by assumption))))
end Go.Proofs.Ytiafmojmanhdoaa
