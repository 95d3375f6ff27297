/- Stations: what the laws take. -/
import Derived.Test.YtoienhjbhpdehaaRowG
import Derived.Test.YtoienhjbhpdehaaLawBase
namespace Go.Proofs.Ytoienhjbhpdehaa
open Go.ChangeShapes Go.WideShapes Go.ChangeAt Go.RowKit Go.Joins
set_option maxRecDepth 100000
set_option linter.unusedVariables false
set_option linter.unusedSimpArgs false

/-- A station: its fuel, and the way to the next one. -/
structure StaV where
  a : Int
  b : Int
instance : Inhabited StaV := ⟨⟨0, 0⟩⟩
def fSta (p : StaV) : List Int := [p.a, p.b]
theorem fSta_len (p : StaV) : (fSta p).length = 2 := rfl
theorem cellsSta : Try.prog.cellsOf 36 = 2 := by kernel_rfl
section
variable {H : Type} {enc : TypeId × Value → H} {W : World} {base fuel : Nat} {spare : Nat → Bool} {held : Bool} {cs : List Value} {x : DataW H × List MemPlace}
theorem trod_sta (h : DataW.trod enc Try.prog W base spare held fuel 36 cs = some x) :
    ∃ p : StaV, cs = (fSta p).map (Value.int .i64) ∧ ∀ y ∈ fSta p, -9223372036854775808 ≤ y ∧ y ≤ 9223372036854775807 := by
  obtain ⟨y0, y1, n', _, hl, h0, h1⟩ := trod_struct2 Try.underlying36 h
  rw [cellsSta] at hl
  obtain ⟨p, e0, bp⟩ := trod_cell h0
  obtain ⟨q, e1, bq⟩ := trod_cell h1
  match cs, hl with
  | [c0, c1], _ =>
    simp [cellsInt] at e0 e1
    subst e0 e1
    exact ⟨⟨p, q⟩, rfl, by simp [fSta]; exact ⟨bp, bq⟩⟩
end
theorem toSta (n d : Int) (w : World) :
    Calls Try.prog 11 #[.agg #[.int .i64 n, .int .i64 d]] w fun e w' => e = .returned (.agg #[.int .i64 n, .int .i64 d]) ∧ Below w.heap.size w w' := by
  go_enter Try.func11, Try.ntmps11
  go_wp2
  refine bodyPost_ret (v := .agg #[.int .i64 n, .int .i64 d]) (by simp [results, Try.results11, go_sem]) rfl ⟨rfl, ?_⟩
  (repeat (first | with_reducible exact Below.refl _ _ | with_reducible assumption | with_reducible refine balloc ?_ _ | with_reducible refine bdrew ?_ | with_reducible refine below_drewN ?_ _ | with_reducible refine bset ?_ ?_ _ | with_reducible exact Nat.le_refl _ | with_reducible refine bsize ?_ | (dsimp only; refine Nat.le_trans ?_ (Nat.le_add_right _ _)) | with_reducible refine Nat.le_trans ?_ (Nat.le_add_right _ _) | (with_reducible refine bstep ?_ (by assumption))))
theorem eqStation_same (n d : Int) (w : World) :
    Calls Try.prog 16 #[.agg #[.int .i64 n, .int .i64 d], .agg #[.int .i64 n, .int .i64 d]] w fun e w' => e = .returned (.bool true) ∧ Below w.heap.size w w' := by
  go_enter Try.func16, Try.ntmps16
  go_wp2
  go_ret
  refine ⟨rfl, ?_⟩
  (repeat (first | with_reducible exact Below.refl _ _ | with_reducible assumption | with_reducible refine balloc ?_ _ | with_reducible refine bdrew ?_ | with_reducible refine below_drewN ?_ _ | with_reducible refine bset ?_ ?_ _ | with_reducible exact Nat.le_refl _ | with_reducible refine bsize ?_ | (dsimp only; refine Nat.le_trans ?_ (Nat.le_add_right _ _)) | with_reducible refine Nat.le_trans ?_ (Nat.le_add_right _ _) | (with_reducible refine bstep ?_ (by assumption))))
end Go.Proofs.Ytoienhjbhpdehaa
