/- Helpers that turn: what the calls answer for up to twenty vehicles, by tables. -/
import Derived.Test.YtgpbkjakmbmccaaXc
import Derived.Test.YtgpbkjakmbmccaaRelL
import Derived.Test.YtgpbkjakmbmccaaRelO
import Derived.Test.YtgpbkjakmbmccaaRelB
import Derived.Test.YtgpbkjakmbmccaaRelN
import Derived.Test.YtgpbkjakmbmccaaRelK
import Derived.Test.YtgpbkjakmbmccaaRelD
namespace Go.Proofs.Ytgpbkjakmbmccaa
open Go.ChangeShapes Go.WideShapes Go.ChangeAt Go.RowKit Go.Joins
set_option maxRecDepth 100000
set_option linter.unusedVariables false
set_option linter.unusedSimpArgs false

def atH (l : List HandV) : Nat → Int × Int
  | 0 => (0, 1)
  | i + 1 => ((l.getD i default).a, (l.getD i default).b)
def htOk (t : Nat) : Bool :=
  inB t 1 20 && (bkL t).length == t - 1 && (hsL t).length == t - 1 && isOk (shX t t 1) (shY t t 1) t 1 && isOk (shX t (2 * t) (t + 1)) (shY t (2 * t) (t + 1)) (2 * t) (t + 1) && isOk (shX t t (t + 1)) (shY t t (t + 1)) t (t + 1) && !lessV (reX 115 t) (reY 115 t) (shX t (2 * t) (t + 1)) (shY t (2 * t) (t + 1)) && sm (reX 115 t) && sm (reY 115 t) && sm (shX t (2 * t) (t + 1)) && sm (shY t (2 * t) (t + 1))
   && (atH (bkL t) (t - 1) == (shX t (t - 1) (t + 1), shY t (t - 1) (t + 1))) && addOk (atH (bkL t) (t - 1)).1 (atH (bkL t) (t - 1)).2 1 1 && addR (atH (bkL t) (t - 1)).1 (atH (bkL t) (t - 1)).2 1 1 == (shX t (2 * t) (t + 1), shY t (2 * t) (t + 1))
   && addOk (atH (hsL t) (t - 1)).1 (atH (hsL t) (t - 1)).2 1 1 && addR (atH (hsL t) (t - 1)).1 (atH (hsL t) (t - 1)).2 1 1 == (reX 115 t, reY 115 t)
def htAt (t i : Nat) : Bool :=
  let p := (bkL t).getD i default
  let a := atH (bkL t) i
  let x := subR p.a p.b a.1 a.2
  let y := addR x.1 x.2 p.c p.d
  let z := addR y.1 y.2 p.e p.f
  let m := mulR x.1 x.2 ((t : Int) - i - 1) 1
  subOk p.a p.b a.1 a.2 && addOk x.1 x.2 p.c p.d && addOk y.1 y.2 p.e p.f && isOk z.1 z.2 1 1 && mulOk x.1 x.2 ((t : Int) - i - 1) 1 && m == (p.c, p.d) && p.e == p.a && p.f == p.b && isOk x.1 x.2 1 (t + 1)
def hsAt (t i : Nat) : Bool :=
  let p := (hsL t).getD i default
  let a := atH (hsL t) i
  let x := subR p.a p.b a.1 a.2
  let y := addR x.1 x.2 p.c p.d
  subOk p.a p.b a.1 a.2 && addOk x.1 x.2 p.c p.d && isOk y.1 y.2 1 1 && p.e == 0 && isOk x.1 x.2 1 ((t : Int) - i)
theorem ht_all : ∀ t, t < 21 → 1 ≤ t → htOk t = true := by decide +kernel
theorem ht_at : ∀ t, t < 21 → ∀ i, i < t - 1 → htAt t i = true := by decide +kernel
theorem hs_at : ∀ t, t < 21 → ∀ i, i < t - 1 → hsAt t i = true := by decide +kernel
end Go.Proofs.Ytgpbkjakmbmccaa
