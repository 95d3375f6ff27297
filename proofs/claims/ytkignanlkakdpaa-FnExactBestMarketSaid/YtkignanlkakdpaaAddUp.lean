/- The contract of addUp, over a slice of amounts wherever it lies. -/
import Derived.Test.YtkignanlkakdpaaReck1
import Derived.Test.YtkignanlkakdpaaPubS1
import Derived.Test.YtkignanlkakdpaaStep
import Derived.Test.YtkignanlkakdpaaRow
namespace Go.Proofs.Ytkignanlkakdpaa
open Go.RowKit
set_option maxRecDepth 100000
set_option linter.unusedVariables false
set_option linter.unusedSimpArgs false

/-- All of a list together, from what there is already, one after the other; none if one of the sums, or a summand, is no amount. -/
def sumL : List (Int × Int) → Int → Int → Option (Int × Int)
  | [], x, y => some (x, y)
  | a :: l, x, y => if (amB a.1 a.2 && lowB (x * a.2 + a.1 * y) (y * a.2)) = true then sumL l (lowN (x * a.2 + a.1 * y) (y * a.2)) (lowD (x * a.2 + a.1 * y) (y * a.2)) else none
def oB (o : Option (Int × Int)) : Bool := o.isSome
def oN (o : Option (Int × Int)) : Int := match o with | some p => p.1 | none => 0
def oD (o : Option (Int × Int)) : Int := match o with | some p => p.2 | none => 0

/-- The cells of an amount. -/
def fAmt (p : Int × Int) : List Int := [p.1, p.2]
theorem fAmt_len (p : Int × Int) : (fAmt p).length = 2 := rfl
theorem infoAmt : (Try.prog.info? 32).map (fun i => (i.zero, i.size, i.bytes)) = some (some (.agg #[.int .i64 0, .int .i64 0]), 2, 16) := by kernel_rfl

/-- A slice that reads as l: none, or one that lies somewhere. -/
def RowG {α : Type} (m : Nat) (f : α → List Int) (w : World) (v : Value) (l : List α) : Prop := (v = .slice none 0 0 ∧ l = []) ∨ ∃ (a : Addr) (cap : Nat), v = .slice (some a) l.length cap ∧ LiesG m f w a cap l
theorem rowG_own {α : Type} {m : Nat} {f : α → List Int} (hm : ∀ x, (f x).length = m) {w : World} {base e : Nat} {v : Value} {l : List α} (h : w.ownsRow base e m v l.length (cellsG f l))
    (hbd : ∀ p ∈ l, ∀ y ∈ f p, -9223372036854775808 ≤ y ∧ y ≤ 9223372036854775807) : RowG m f w v l := by
  have h' := h
  obtain ⟨_, hs⟩ := h
  rcases hs with ⟨hv, hn⟩ | ⟨g, cap, cur, hv, _⟩
  · exact Or.inl ⟨hv, List.length_eq_zero_iff.1 hn⟩
  · subst hv
    exact Or.inr ⟨_, cap, rfl, liesG_own hm h' hbd⟩
end Go.Proofs.Ytkignanlkakdpaa
