/- Camels: contracts of CountTrips, RateOf on both sides. -/
import Derived.Test.YtgmgifgbalcngaaCam4
import Derived.Test.YtgmgifgbalcngaaCam5
import Derived.Deep.RegionHeld3
import Derived.Deep.DeepCutAuto
namespace Go.Proofs.Ytgmgifgbalcngaa
open Go.RowKit
set_option maxRecDepth 100000
set_option linter.unusedVariables false
set_option linter.unusedSimpArgs false

/-- How often at first; the rate at first. -/
def ctX (L E n d : Int) : Int := if askB L E n d = true then (trp (L * d) n : Int) else 0
def rtX (L E n d : Int) : Int := if askB L E n d = true then (2 * (trp (L * d) n : Int) - 1) * E else 0
end Go.Proofs.Ytgmgifgbalcngaa
