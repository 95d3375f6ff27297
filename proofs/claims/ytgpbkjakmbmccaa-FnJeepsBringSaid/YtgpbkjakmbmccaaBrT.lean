/- Depots that are brought: what the calls answer for up to ten tanks, by tables. -/
import Derived.Test.YtgpbkjakmbmccaaXc
import Derived.Test.YtgpbkjakmbmccaaCamM
import Derived.Test.YtgpbkjakmbmccaaDepC
import Derived.Test.YtgpbkjakmbmccaaTripsC
import Derived.Test.YtgpbkjakmbmccaaCarD
import Derived.Test.YtgpbkjakmbmccaaDrvC
import Derived.Test.YtgpbkjakmbmccaaFarO
namespace Go.Proofs.Ytgpbkjakmbmccaa
open Go.ChangeShapes Go.WideShapes Go.ChangeAt Go.RowKit Go.Joins
set_option maxRecDepth 100000
set_option linter.unusedVariables false
set_option linter.unusedSimpArgs false

def atD (l : List DepotV) : Nat → Int × Int
  | 0 => (0, 1)
  | i + 1 => ((l.getD i default).a, (l.getD i default).b)
def brOk (m : Nat) : Bool :=
  isOk ((m : Int) + 1) 1 ((m : Int) + 1) 1 && fwB 1 ((m : Int) + 1) 1 && addOk (atD (dpP 1 (m + 1) m) m).1 (atD (dpP 1 (m + 1) m) m).2 1 1 && addR (atD (dpP 1 (m + 1) m) m).1 (atD (dpP 1 (m + 1) m) m).2 1 1 == (fwX 1 ((m : Int) + 1) 1, fwY 1 ((m : Int) + 1) 1)
def brAt (m i : Nat) : Bool :=
  let p := (dpP 1 (m + 1) m).getD i default
  let q := (dpP 2 (m + 1) m).getD i default
  let c := (crP (m + 1) m).getD i default
  let r := (trP (m + 1) m).getD i default
  let a := atD (dpP 1 (m + 1) m) i
  let h := atD (dpP 2 (m + 1) m) i
  let k := (m : Int) - i
  let x := subR p.a p.b a.1 a.2
  let y := subR q.a q.b h.1 h.2
  let l := mulR c.1 c.2 k 1
  let z := subR 1 1 x.1 x.2
  let s := addR l.1 l.2 z.1 z.2
  subOk p.a p.b a.1 a.2 && isOk x.1 x.2 1 (2 * k + 1) && subOk q.a q.b h.1 h.2 && isOk y.1 y.2 1 (2 * k + 2) && isOk p.n p.d k 1 && r == k + 1 && isOk q.n q.d (k * k) (k + 1) && mulOk c.1 c.2 k 1 && subOk 1 1 x.1 x.2 && addOk l.1 l.2 z.1 z.2 && s == (p.n, p.d)
theorem br_all : ∀ m, m < 10 → brOk m = true := by decide +kernel
theorem br_at : ∀ m, m < 10 → ∀ i, i < m → brAt m i = true := by decide +kernel
end Go.Proofs.Ytgpbkjakmbmccaa
