/- Depots: the laws' argument opened; lists of depots; states. -/
import Derived.Test.YtgpbkjakmbmccaaRow
import Derived.Test.YtgpbkjakmbmccaaLawBase
namespace Go.Proofs.Ytgpbkjakmbmccaa
open Go.ChangeShapes Go.WideShapes Go.ChangeAt Go.RowKit Go.Joins
set_option maxRecDepth 100000
set_option linter.unusedVariables false
set_option linter.unusedSimpArgs false

/-- A depot: where it is (a / b), and its fuel (n / d). -/
structure DepotV where
  a : Int
  b : Int
  n : Int
  d : Int
instance : Inhabited DepotV := ⟨⟨0, 0, 0, 0⟩⟩
def fDepot (p : DepotV) : List Int := [p.a, p.b, p.n, p.d]
theorem fDepot_len (p : DepotV) : (fDepot p).length = 4 := rfl
section
variable {H : Type} {enc : TypeId × Value → H} {W : World} {base fuel : Nat} {spare : Nat → Bool} {held : Bool} {cs : List Value} {x : DataW H × List MemPlace}
abbrev B64 (x : Int) : Prop := -9223372036854775808 ≤ x ∧ x ≤ 9223372036854775807
/-- A state's six numbers are what an int holds. -/
structure StBd (a b c d e f : Int) : Prop where
  a : B64 a
  b : B64 b
  c : B64 c
  d : B64 d
  e : B64 e
  f : B64 f
end

end Go.Proofs.Ytgpbkjakmbmccaa
