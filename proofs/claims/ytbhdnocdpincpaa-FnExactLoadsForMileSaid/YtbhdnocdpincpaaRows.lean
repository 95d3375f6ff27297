/-
  No cell of these rows narrows 'for every input' (looked for: loops, veiled, ifaces, maps, wideKeys, modest, calm, conditions, laid).
  DERIVED. THE GIVEN ROWS OF THIS SEAT. 6 by the template 'for every input the law returns true; each argument reads behind the call as it read before'; 0 by the template 'total and deterministic' (their statements: YtbhdnocdpincpaaTotals.lean).
  GIVEN WITH THE SEED: the statements are not yours to turn. If you find one false, say at which input.
  Laid BY PROGRAM, IN A SANDBOX (cutbox-rows.mjs): the forced cells as the released guide's own fill.sh prints them over the translation 28667fb5b777b553… (all of the seat's roots in one cut). By AI agents, Wed Nov 11 2026. No macro, syntax, notation, axiom, sorry.
-/
import Derived.Test.YtbhdnocdpincpaaChecked
import GoSem.Claim
import GoSem.ClaimJoined
import GoSem.ClaimMapViews
import Derived.JoinedTies
import Derived.KernelRfl
namespace Go.Proofs.Ytbhdnocdpincpaa
/- THE CELL 'sum', in the pinned program and in every row, IS THE sha256 OF THE DUMP (.gsa) THAT YtbhdnocdpincpaaProg.lean LOADS. Nothing in Lean hashes anything: it is a label: what it is worth is what the hold of that sum in a sandbox is worth. -/
noncomputable def Try.pinned : Pinned := { name := "ytbhdnocdpincpaa", sum := "28667fb5b777b5532cd02c6350b18a079bada9b2d1230deb8a53b6080d8433f0", checked := Try.checked }
namespace Rows
def none {H : Type} : Left H := { results := [], args := [] }

/-- 'laws.FnExactTripsForMile': WHATEVER THE INPUT: true; the input reads as it did. -/
def fnExactTripsForMileSpec : ChangeSpec := { name := "fnExactTripsForMile", fn := fun _ => fun
  | [d1, d2] => { results := [.lit (.bool true)], args := [d1, d2] }
  | _ => none }
def fnExactTripsForMileRow : OpenClaim := { program := "ytbhdnocdpincpaa", sum := "28667fb5b777b5532cd02c6350b18a079bada9b2d1230deb8a53b6080d8433f0", func := "loop.example/g01258/laws.FnExactTripsForMile", spec := "fnExactTripsForMile", apart := false }
def FnExactTripsForMileSaid : Prop := fnExactTripsForMileRow.holds Try.pinned (OpenSpec.ofChange fnExactTripsForMileSpec)

/-- ITS FALSE NEIGHBOUR: 'it returns false'. Refute it at one input. -/
def fnExactTripsForMileWrong : ChangeSpec := { name := "fnExactTripsForMile", fn := fun _ => fun
  | [d1, d2] => { results := [.lit (.bool false)], args := [d1, d2] }
  | _ => none }
def FnExactTripsForMileWrongFalsely : Prop := fnExactTripsForMileRow.holds Try.pinned (OpenSpec.ofChange fnExactTripsForMileWrong)

/-- 'laws.FnExactNeedForMile': WHATEVER THE INPUT: true; the input reads as it did. -/
def fnExactNeedForMileSpec : ChangeSpec := { name := "fnExactNeedForMile", fn := fun _ => fun
  | [d1, d2] => { results := [.lit (.bool true)], args := [d1, d2] }
  | _ => none }
def fnExactNeedForMileRow : OpenClaim := { program := "ytbhdnocdpincpaa", sum := "28667fb5b777b5532cd02c6350b18a079bada9b2d1230deb8a53b6080d8433f0", func := "loop.example/g01258/laws.FnExactNeedForMile", spec := "fnExactNeedForMile", apart := false }
def FnExactNeedForMileSaid : Prop := fnExactNeedForMileRow.holds Try.pinned (OpenSpec.ofChange fnExactNeedForMileSpec)

/-- ITS FALSE NEIGHBOUR: 'it returns false'. Refute it at one input. -/
def fnExactNeedForMileWrong : ChangeSpec := { name := "fnExactNeedForMile", fn := fun _ => fun
  | [d1, d2] => { results := [.lit (.bool false)], args := [d1, d2] }
  | _ => none }
def FnExactNeedForMileWrongFalsely : Prop := fnExactNeedForMileRow.holds Try.pinned (OpenSpec.ofChange fnExactNeedForMileWrong)

/-- 'laws.FnExactLoadsForMile': WHATEVER THE INPUT: true; the input reads as it did. -/
def fnExactLoadsForMileSpec : ChangeSpec := { name := "fnExactLoadsForMile", fn := fun _ => fun
  | [d1, d2] => { results := [.lit (.bool true)], args := [d1, d2] }
  | _ => none }
def fnExactLoadsForMileRow : OpenClaim := { program := "ytbhdnocdpincpaa", sum := "28667fb5b777b5532cd02c6350b18a079bada9b2d1230deb8a53b6080d8433f0", func := "loop.example/g01258/laws.FnExactLoadsForMile", spec := "fnExactLoadsForMile", apart := false }
def FnExactLoadsForMileSaid : Prop := fnExactLoadsForMileRow.holds Try.pinned (OpenSpec.ofChange fnExactLoadsForMileSpec)

/-- ITS FALSE NEIGHBOUR: 'it returns false'. Refute it at one input. -/
def fnExactLoadsForMileWrong : ChangeSpec := { name := "fnExactLoadsForMile", fn := fun _ => fun
  | [d1, d2] => { results := [.lit (.bool false)], args := [d1, d2] }
  | _ => none }
def FnExactLoadsForMileWrongFalsely : Prop := fnExactLoadsForMileRow.holds Try.pinned (OpenSpec.ofChange fnExactLoadsForMileWrong)

/-- 'laws.FnExactNeedForBack': WHATEVER THE INPUT: true; the input reads as it did. -/
def fnExactNeedForBackSpec : ChangeSpec := { name := "fnExactNeedForBack", fn := fun _ => fun
  | [d1, d2] => { results := [.lit (.bool true)], args := [d1, d2] }
  | _ => none }
def fnExactNeedForBackRow : OpenClaim := { program := "ytbhdnocdpincpaa", sum := "28667fb5b777b5532cd02c6350b18a079bada9b2d1230deb8a53b6080d8433f0", func := "loop.example/g01258/laws.FnExactNeedForBack", spec := "fnExactNeedForBack", apart := false }
def FnExactNeedForBackSaid : Prop := fnExactNeedForBackRow.holds Try.pinned (OpenSpec.ofChange fnExactNeedForBackSpec)

/-- ITS FALSE NEIGHBOUR: 'it returns false'. Refute it at one input. -/
def fnExactNeedForBackWrong : ChangeSpec := { name := "fnExactNeedForBack", fn := fun _ => fun
  | [d1, d2] => { results := [.lit (.bool false)], args := [d1, d2] }
  | _ => none }
def FnExactNeedForBackWrongFalsely : Prop := fnExactNeedForBackRow.holds Try.pinned (OpenSpec.ofChange fnExactNeedForBackWrong)

/-- 'laws.FnExactExactOut': WHATEVER THE INPUT: true; the input reads as it did. -/
def fnExactExactOutSpec : ChangeSpec := { name := "fnExactExactOut", fn := fun _ => fun
  | [d1, d2] => { results := [.lit (.bool true)], args := [d1, d2] }
  | _ => none }
def fnExactExactOutRow : OpenClaim := { program := "ytbhdnocdpincpaa", sum := "28667fb5b777b5532cd02c6350b18a079bada9b2d1230deb8a53b6080d8433f0", func := "loop.example/g01258/laws.FnExactExactOut", spec := "fnExactExactOut", unfollowed := true, recurses := true, apart := false }
def FnExactExactOutSaid : Prop := fnExactExactOutRow.holds Try.pinned (OpenSpec.ofChange fnExactExactOutSpec)

/-- ITS FALSE NEIGHBOUR: 'it returns false'. Refute it at one input. -/
def fnExactExactOutWrong : ChangeSpec := { name := "fnExactExactOut", fn := fun _ => fun
  | [d1, d2] => { results := [.lit (.bool false)], args := [d1, d2] }
  | _ => none }
def FnExactExactOutWrongFalsely : Prop := fnExactExactOutRow.holds Try.pinned (OpenSpec.ofChange fnExactExactOutWrong)

/-- 'laws.FnExactCansAfter': WHATEVER THE INPUT: true; the input reads as it did. -/
def fnExactCansAfterSpec : ChangeSpec := { name := "fnExactCansAfter", fn := fun _ => fun
  | [d1, d2] => { results := [.lit (.bool true)], args := [d1, d2] }
  | _ => none }
def fnExactCansAfterRow : OpenClaim := { program := "ytbhdnocdpincpaa", sum := "28667fb5b777b5532cd02c6350b18a079bada9b2d1230deb8a53b6080d8433f0", func := "loop.example/g01258/laws.FnExactCansAfter", spec := "fnExactCansAfter", unfollowed := true, recurses := true, apart := false }
def FnExactCansAfterSaid : Prop := fnExactCansAfterRow.holds Try.pinned (OpenSpec.ofChange fnExactCansAfterSpec)

/-- ITS FALSE NEIGHBOUR: 'it returns false'. Refute it at one input. -/
def fnExactCansAfterWrong : ChangeSpec := { name := "fnExactCansAfter", fn := fun _ => fun
  | [d1, d2] => { results := [.lit (.bool false)], args := [d1, d2] }
  | _ => none }
def FnExactCansAfterWrongFalsely : Prop := fnExactCansAfterRow.holds Try.pinned (OpenSpec.ofChange fnExactCansAfterWrong)

/- THE SECOND FORM. 'bulk': how many values and letters a reading holds, each counted each time it is reached (what is shared counts as often as it is met; a slice's spare places count too). A statement '..UptoSaid' is the law's where the arguments, and the package variables that the reading takes, are together of bulk at most 1048576: NARROWER than '..Said'. Prove '..Said' where nothing that the law and all that it calls make is longer than what came in: it says more and counts as full. Else prove '..UptoSaid'. A law counts once. -/
mutual
def uptoBulk {H : Type} : DataW H → Nat
  | .lit (.string bytes) => bytes.length + 1
  | .lit _ => 1
  | .nil => 1
  | .ptr d => uptoBulk d + 1
  | .slice elems spare => uptoBulkAll elems + uptoBulkAll spare + 1
  | .agg parts => uptoBulkAll parts + 1
  | .iface _ d => uptoBulk d + 1
  | .map entries => uptoBulkEntries entries + 1
  | .held _ => 1
def uptoBulkAll {H : Type} : List (DataW H) → Nat
  | [] => 0
  | d :: r => uptoBulk d + uptoBulkAll r
def uptoBulkEntries {H : Type} : List (Lit × DataW H) → Nat
  | [] => 0
  | x :: r => uptoBulkEntry x + uptoBulkEntries r
def uptoBulkEntry {H : Type} : Lit × DataW H → Nat
  | (.string bytes, d) => bytes.length + uptoBulk d + 1
  | (_, d) => uptoBulk d + 1
 end
def uptoSmall : (H : Type) → List (DataW H) → Bool := fun _ ds => decide (uptoBulkAll ds ≤ 1048576)
def OpenSpec.upto (s : _root_.Go.ChangeSpec) : _root_.Go.OpenSpec := { _root_.Go.OpenSpec.ofChange s with cond := some uptoSmall }

/-- 'laws.FnExactTripsForMile', WHERE WHAT IT READS IS OF BULK AT MOST 1048576: true; the input reads as it did. -/
def fnExactTripsForMileUptoRow : OpenClaim := { program := "ytbhdnocdpincpaa", sum := "28667fb5b777b5532cd02c6350b18a079bada9b2d1230deb8a53b6080d8433f0", func := "loop.example/g01258/laws.FnExactTripsForMile", spec := "fnExactTripsForMile", apart := false, narrowed := true }
def FnExactTripsForMileUptoSaid : Prop := fnExactTripsForMileUptoRow.holds Try.pinned (OpenSpec.upto fnExactTripsForMileSpec)

/-- 'laws.FnExactNeedForMile', WHERE WHAT IT READS IS OF BULK AT MOST 1048576: true; the input reads as it did. -/
def fnExactNeedForMileUptoRow : OpenClaim := { program := "ytbhdnocdpincpaa", sum := "28667fb5b777b5532cd02c6350b18a079bada9b2d1230deb8a53b6080d8433f0", func := "loop.example/g01258/laws.FnExactNeedForMile", spec := "fnExactNeedForMile", apart := false, narrowed := true }
def FnExactNeedForMileUptoSaid : Prop := fnExactNeedForMileUptoRow.holds Try.pinned (OpenSpec.upto fnExactNeedForMileSpec)

/-- 'laws.FnExactLoadsForMile', WHERE WHAT IT READS IS OF BULK AT MOST 1048576: true; the input reads as it did. -/
def fnExactLoadsForMileUptoRow : OpenClaim := { program := "ytbhdnocdpincpaa", sum := "28667fb5b777b5532cd02c6350b18a079bada9b2d1230deb8a53b6080d8433f0", func := "loop.example/g01258/laws.FnExactLoadsForMile", spec := "fnExactLoadsForMile", apart := false, narrowed := true }
def FnExactLoadsForMileUptoSaid : Prop := fnExactLoadsForMileUptoRow.holds Try.pinned (OpenSpec.upto fnExactLoadsForMileSpec)

/-- 'laws.FnExactNeedForBack', WHERE WHAT IT READS IS OF BULK AT MOST 1048576: true; the input reads as it did. -/
def fnExactNeedForBackUptoRow : OpenClaim := { program := "ytbhdnocdpincpaa", sum := "28667fb5b777b5532cd02c6350b18a079bada9b2d1230deb8a53b6080d8433f0", func := "loop.example/g01258/laws.FnExactNeedForBack", spec := "fnExactNeedForBack", apart := false, narrowed := true }
def FnExactNeedForBackUptoSaid : Prop := fnExactNeedForBackUptoRow.holds Try.pinned (OpenSpec.upto fnExactNeedForBackSpec)

/-- 'laws.FnExactExactOut', WHERE WHAT IT READS IS OF BULK AT MOST 1048576: true; the input reads as it did. -/
def fnExactExactOutUptoRow : OpenClaim := { program := "ytbhdnocdpincpaa", sum := "28667fb5b777b5532cd02c6350b18a079bada9b2d1230deb8a53b6080d8433f0", func := "loop.example/g01258/laws.FnExactExactOut", spec := "fnExactExactOut", unfollowed := true, recurses := true, apart := false, narrowed := true }
def FnExactExactOutUptoSaid : Prop := fnExactExactOutUptoRow.holds Try.pinned (OpenSpec.upto fnExactExactOutSpec)

/-- 'laws.FnExactCansAfter', WHERE WHAT IT READS IS OF BULK AT MOST 1048576: true; the input reads as it did. -/
def fnExactCansAfterUptoRow : OpenClaim := { program := "ytbhdnocdpincpaa", sum := "28667fb5b777b5532cd02c6350b18a079bada9b2d1230deb8a53b6080d8433f0", func := "loop.example/g01258/laws.FnExactCansAfter", spec := "fnExactCansAfter", unfollowed := true, recurses := true, apart := false, narrowed := true }
def FnExactCansAfterUptoSaid : Prop := fnExactCansAfterUptoRow.holds Try.pinned (OpenSpec.upto fnExactCansAfterSpec)

end Rows
end Go.Proofs.Ytbhdnocdpincpaa
