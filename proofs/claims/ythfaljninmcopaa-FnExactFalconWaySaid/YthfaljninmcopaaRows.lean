/-
  No cell of these rows narrows 'for every input' (looked for: loops, veiled, ifaces, maps, wideKeys, modest, calm, conditions, laid).
  DERIVED. THE GIVEN ROWS OF THIS SEAT. 12 by the template 'for every input the law returns true; each argument reads behind the call as it read before'; 0 by the template 'total and deterministic' (their statements: YthfaljninmcopaaTotals.lean).
  GIVEN WITH THE SEED: the statements are not yours to turn. If you find one false, say at which input.
  Laid BY PROGRAM, IN A SANDBOX (cutbox-rows.mjs): the forced cells as the released guide's own fill.sh prints them over the translation 469df3f9516da803… (all of the seat's roots in one cut). By AI agents, Wed Nov 11 2026. No macro, syntax, notation, axiom, sorry.
-/
import Derived.Test.YthfaljninmcopaaChecked
import GoSem.Claim
import GoSem.ClaimJoined
import GoSem.ClaimMapViews
import Derived.JoinedTies
import Derived.KernelRfl
namespace Go.Proofs.Ythfaljninmcopaa
/- THE CELL 'sum', in the pinned program and in every row, IS THE sha256 OF THE DUMP (.gsa) THAT YthfaljninmcopaaProg.lean LOADS. Nothing in Lean hashes anything: it is a label: what it is worth is what the hold of that sum in a sandbox is worth. -/
noncomputable def Try.pinned : Pinned := { name := "ythfaljninmcopaa", sum := "469df3f9516da803121c02eb21576472f2c4d130d07e8cb01c2df74c2f475d05", checked := Try.checked }
namespace Rows
def none {H : Type} : Left H := { results := [], args := [] }

/-- 'laws.FnExactIsCaravan': WHATEVER THE INPUT: true; the input reads as it did. -/
def fnExactIsCaravanSpec : ChangeSpec := { name := "fnExactIsCaravan", fn := fun _ => fun
  | [d] => { results := [.lit (.bool true)], args := [d] }
  | _ => none }
def fnExactIsCaravanRow : OpenClaim := { program := "ythfaljninmcopaa", sum := "469df3f9516da803121c02eb21576472f2c4d130d07e8cb01c2df74c2f475d05", func := "loop.example/g01258/laws.FnExactIsCaravan", spec := "fnExactIsCaravan", unfollowed := true, recurses := true, apart := false }
def FnExactIsCaravanSaid : Prop := fnExactIsCaravanRow.holds Try.pinned (OpenSpec.ofChange fnExactIsCaravanSpec)

/-- ITS FALSE NEIGHBOUR: 'it returns false'. Refute it at one input. -/
def fnExactIsCaravanWrong : ChangeSpec := { name := "fnExactIsCaravan", fn := fun _ => fun
  | [d] => { results := [.lit (.bool false)], args := [d] }
  | _ => none }
def FnExactIsCaravanWrongFalsely : Prop := fnExactIsCaravanRow.holds Try.pinned (OpenSpec.ofChange fnExactIsCaravanWrong)

/-- 'laws.FnExactPlaceAt': WHATEVER THE INPUT: true; the input reads as it did. -/
def fnExactPlaceAtSpec : ChangeSpec := { name := "fnExactPlaceAt", fn := fun _ => fun
  | [d1, d2] => { results := [.lit (.bool true)], args := [d1, d2] }
  | _ => none }
def fnExactPlaceAtRow : OpenClaim := { program := "ythfaljninmcopaa", sum := "469df3f9516da803121c02eb21576472f2c4d130d07e8cb01c2df74c2f475d05", func := "loop.example/g01258/laws.FnExactPlaceAt", spec := "fnExactPlaceAt", unfollowed := true, recurses := true, apart := false }
def FnExactPlaceAtSaid : Prop := fnExactPlaceAtRow.holds Try.pinned (OpenSpec.ofChange fnExactPlaceAtSpec)

/-- ITS FALSE NEIGHBOUR: 'it returns false'. Refute it at one input. -/
def fnExactPlaceAtWrong : ChangeSpec := { name := "fnExactPlaceAt", fn := fun _ => fun
  | [d1, d2] => { results := [.lit (.bool false)], args := [d1, d2] }
  | _ => none }
def FnExactPlaceAtWrongFalsely : Prop := fnExactPlaceAtRow.holds Try.pinned (OpenSpec.ofChange fnExactPlaceAtWrong)

/-- 'laws.FnExactTimeAt': WHATEVER THE INPUT: true; the input reads as it did. -/
def fnExactTimeAtSpec : ChangeSpec := { name := "fnExactTimeAt", fn := fun _ => fun
  | [d1, d2] => { results := [.lit (.bool true)], args := [d1, d2] }
  | _ => none }
def fnExactTimeAtRow : OpenClaim := { program := "ythfaljninmcopaa", sum := "469df3f9516da803121c02eb21576472f2c4d130d07e8cb01c2df74c2f475d05", func := "loop.example/g01258/laws.FnExactTimeAt", spec := "fnExactTimeAt", unfollowed := true, recurses := true, apart := false }
def FnExactTimeAtSaid : Prop := fnExactTimeAtRow.holds Try.pinned (OpenSpec.ofChange fnExactTimeAtSpec)

/-- ITS FALSE NEIGHBOUR: 'it returns false'. Refute it at one input. -/
def fnExactTimeAtWrong : ChangeSpec := { name := "fnExactTimeAt", fn := fun _ => fun
  | [d1, d2] => { results := [.lit (.bool false)], args := [d1, d2] }
  | _ => none }
def FnExactTimeAtWrongFalsely : Prop := fnExactTimeAtRow.holds Try.pinned (OpenSpec.ofChange fnExactTimeAtWrong)

/-- 'laws.FnExactCatchTime': WHATEVER THE INPUT: true; the input reads as it did. -/
def fnExactCatchTimeSpec : ChangeSpec := { name := "fnExactCatchTime", fn := fun _ => fun
  | [d1, d2] => { results := [.lit (.bool true)], args := [d1, d2] }
  | _ => none }
def fnExactCatchTimeRow : OpenClaim := { program := "ythfaljninmcopaa", sum := "469df3f9516da803121c02eb21576472f2c4d130d07e8cb01c2df74c2f475d05", func := "loop.example/g01258/laws.FnExactCatchTime", spec := "fnExactCatchTime", unfollowed := true, recurses := true, apart := false }
def FnExactCatchTimeSaid : Prop := fnExactCatchTimeRow.holds Try.pinned (OpenSpec.ofChange fnExactCatchTimeSpec)

/-- ITS FALSE NEIGHBOUR: 'it returns false'. Refute it at one input. -/
def fnExactCatchTimeWrong : ChangeSpec := { name := "fnExactCatchTime", fn := fun _ => fun
  | [d1, d2] => { results := [.lit (.bool false)], args := [d1, d2] }
  | _ => none }
def FnExactCatchTimeWrongFalsely : Prop := fnExactCatchTimeRow.holds Try.pinned (OpenSpec.ofChange fnExactCatchTimeWrong)

/-- 'laws.FnExactCatchPlace': WHATEVER THE INPUT: true; the input reads as it did. -/
def fnExactCatchPlaceSpec : ChangeSpec := { name := "fnExactCatchPlace", fn := fun _ => fun
  | [d1, d2] => { results := [.lit (.bool true)], args := [d1, d2] }
  | _ => none }
def fnExactCatchPlaceRow : OpenClaim := { program := "ythfaljninmcopaa", sum := "469df3f9516da803121c02eb21576472f2c4d130d07e8cb01c2df74c2f475d05", func := "loop.example/g01258/laws.FnExactCatchPlace", spec := "fnExactCatchPlace", unfollowed := true, recurses := true, apart := false }
def FnExactCatchPlaceSaid : Prop := fnExactCatchPlaceRow.holds Try.pinned (OpenSpec.ofChange fnExactCatchPlaceSpec)

/-- ITS FALSE NEIGHBOUR: 'it returns false'. Refute it at one input. -/
def fnExactCatchPlaceWrong : ChangeSpec := { name := "fnExactCatchPlace", fn := fun _ => fun
  | [d1, d2] => { results := [.lit (.bool false)], args := [d1, d2] }
  | _ => none }
def FnExactCatchPlaceWrongFalsely : Prop := fnExactCatchPlaceRow.holds Try.pinned (OpenSpec.ofChange fnExactCatchPlaceWrong)

/-- 'laws.FnExactColumnTime': WHATEVER THE INPUT: true; the input reads as it did. -/
def fnExactColumnTimeSpec : ChangeSpec := { name := "fnExactColumnTime", fn := fun _ => fun
  | [d1, d2, d3] => { results := [.lit (.bool true)], args := [d1, d2, d3] }
  | _ => none }
def fnExactColumnTimeRow : OpenClaim := { program := "ythfaljninmcopaa", sum := "469df3f9516da803121c02eb21576472f2c4d130d07e8cb01c2df74c2f475d05", func := "loop.example/g01258/laws.FnExactColumnTime", spec := "fnExactColumnTime", unfollowed := true, recurses := true, apart := false }
def FnExactColumnTimeSaid : Prop := fnExactColumnTimeRow.holds Try.pinned (OpenSpec.ofChange fnExactColumnTimeSpec)

/-- ITS FALSE NEIGHBOUR: 'it returns false'. Refute it at one input. -/
def fnExactColumnTimeWrong : ChangeSpec := { name := "fnExactColumnTime", fn := fun _ => fun
  | [d1, d2, d3] => { results := [.lit (.bool false)], args := [d1, d2, d3] }
  | _ => none }
def FnExactColumnTimeWrongFalsely : Prop := fnExactColumnTimeRow.holds Try.pinned (OpenSpec.ofChange fnExactColumnTimeWrong)

/-- 'laws.FnExactColumnWay': WHATEVER THE INPUT: true; the input reads as it did. -/
def fnExactColumnWaySpec : ChangeSpec := { name := "fnExactColumnWay", fn := fun _ => fun
  | [d1, d2, d3] => { results := [.lit (.bool true)], args := [d1, d2, d3] }
  | _ => none }
def fnExactColumnWayRow : OpenClaim := { program := "ythfaljninmcopaa", sum := "469df3f9516da803121c02eb21576472f2c4d130d07e8cb01c2df74c2f475d05", func := "loop.example/g01258/laws.FnExactColumnWay", spec := "fnExactColumnWay", unfollowed := true, recurses := true, apart := false }
def FnExactColumnWaySaid : Prop := fnExactColumnWayRow.holds Try.pinned (OpenSpec.ofChange fnExactColumnWaySpec)

/-- ITS FALSE NEIGHBOUR: 'it returns false'. Refute it at one input. -/
def fnExactColumnWayWrong : ChangeSpec := { name := "fnExactColumnWay", fn := fun _ => fun
  | [d1, d2, d3] => { results := [.lit (.bool false)], args := [d1, d2, d3] }
  | _ => none }
def FnExactColumnWayWrongFalsely : Prop := fnExactColumnWayRow.holds Try.pinned (OpenSpec.ofChange fnExactColumnWayWrong)

/-- 'laws.FnExactFalconWay': WHATEVER THE INPUT: true; the input reads as it did. -/
def fnExactFalconWaySpec : ChangeSpec := { name := "fnExactFalconWay", fn := fun _ => fun
  | [d1, d2, d3, d4] => { results := [.lit (.bool true)], args := [d1, d2, d3, d4] }
  | _ => none }
def fnExactFalconWayRow : OpenClaim := { program := "ythfaljninmcopaa", sum := "469df3f9516da803121c02eb21576472f2c4d130d07e8cb01c2df74c2f475d05", func := "loop.example/g01258/laws.FnExactFalconWay", spec := "fnExactFalconWay", unfollowed := true, recurses := true, apart := false }
def FnExactFalconWaySaid : Prop := fnExactFalconWayRow.holds Try.pinned (OpenSpec.ofChange fnExactFalconWaySpec)

/-- ITS FALSE NEIGHBOUR: 'it returns false'. Refute it at one input. -/
def fnExactFalconWayWrong : ChangeSpec := { name := "fnExactFalconWay", fn := fun _ => fun
  | [d1, d2, d3, d4] => { results := [.lit (.bool false)], args := [d1, d2, d3, d4] }
  | _ => none }
def FnExactFalconWayWrongFalsely : Prop := fnExactFalconWayRow.holds Try.pinned (OpenSpec.ofChange fnExactFalconWayWrong)

/-- 'laws.FnExactPassTime': WHATEVER THE INPUT: true; the input reads as it did. -/
def fnExactPassTimeSpec : ChangeSpec := { name := "fnExactPassTime", fn := fun _ => fun
  | [d1, d2, d3, d4, d5] => { results := [.lit (.bool true)], args := [d1, d2, d3, d4, d5] }
  | _ => none }
def fnExactPassTimeRow : OpenClaim := { program := "ythfaljninmcopaa", sum := "469df3f9516da803121c02eb21576472f2c4d130d07e8cb01c2df74c2f475d05", func := "loop.example/g01258/laws.FnExactPassTime", spec := "fnExactPassTime", unfollowed := true, recurses := true, apart := false }
def FnExactPassTimeSaid : Prop := fnExactPassTimeRow.holds Try.pinned (OpenSpec.ofChange fnExactPassTimeSpec)

/-- ITS FALSE NEIGHBOUR: 'it returns false'. Refute it at one input. -/
def fnExactPassTimeWrong : ChangeSpec := { name := "fnExactPassTime", fn := fun _ => fun
  | [d1, d2, d3, d4, d5] => { results := [.lit (.bool false)], args := [d1, d2, d3, d4, d5] }
  | _ => none }
def FnExactPassTimeWrongFalsely : Prop := fnExactPassTimeRow.holds Try.pinned (OpenSpec.ofChange fnExactPassTimeWrong)

/-- 'laws.FnExactDaysFor': WHATEVER THE INPUT: true; the input reads as it did. -/
def fnExactDaysForSpec : ChangeSpec := { name := "fnExactDaysFor", fn := fun _ => fun
  | [d1, d2, d3] => { results := [.lit (.bool true)], args := [d1, d2, d3] }
  | _ => none }
def fnExactDaysForRow : OpenClaim := { program := "ythfaljninmcopaa", sum := "469df3f9516da803121c02eb21576472f2c4d130d07e8cb01c2df74c2f475d05", func := "loop.example/g01258/laws.FnExactDaysFor", spec := "fnExactDaysFor", unfollowed := true, recurses := true, apart := false }
def FnExactDaysForSaid : Prop := fnExactDaysForRow.holds Try.pinned (OpenSpec.ofChange fnExactDaysForSpec)

/-- ITS FALSE NEIGHBOUR: 'it returns false'. Refute it at one input. -/
def fnExactDaysForWrong : ChangeSpec := { name := "fnExactDaysFor", fn := fun _ => fun
  | [d1, d2, d3] => { results := [.lit (.bool false)], args := [d1, d2, d3] }
  | _ => none }
def FnExactDaysForWrongFalsely : Prop := fnExactDaysForRow.holds Try.pinned (OpenSpec.ofChange fnExactDaysForWrong)

/-- 'laws.FnExactPlaceOnDay': WHATEVER THE INPUT: true; the input reads as it did. -/
def fnExactPlaceOnDaySpec : ChangeSpec := { name := "fnExactPlaceOnDay", fn := fun _ => fun
  | [d1, d2, d3, d4] => { results := [.lit (.bool true)], args := [d1, d2, d3, d4] }
  | _ => none }
def fnExactPlaceOnDayRow : OpenClaim := { program := "ythfaljninmcopaa", sum := "469df3f9516da803121c02eb21576472f2c4d130d07e8cb01c2df74c2f475d05", func := "loop.example/g01258/laws.FnExactPlaceOnDay", spec := "fnExactPlaceOnDay", unfollowed := true, recurses := true, apart := false }
def FnExactPlaceOnDaySaid : Prop := fnExactPlaceOnDayRow.holds Try.pinned (OpenSpec.ofChange fnExactPlaceOnDaySpec)

/-- ITS FALSE NEIGHBOUR: 'it returns false'. Refute it at one input. -/
def fnExactPlaceOnDayWrong : ChangeSpec := { name := "fnExactPlaceOnDay", fn := fun _ => fun
  | [d1, d2, d3, d4] => { results := [.lit (.bool false)], args := [d1, d2, d3, d4] }
  | _ => none }
def FnExactPlaceOnDayWrongFalsely : Prop := fnExactPlaceOnDayRow.holds Try.pinned (OpenSpec.ofChange fnExactPlaceOnDayWrong)

/-- 'laws.FnExactWaterFor': WHATEVER THE INPUT: true; the input reads as it did. -/
def fnExactWaterForSpec : ChangeSpec := { name := "fnExactWaterFor", fn := fun _ => fun
  | [d1, d2, d3, d4] => { results := [.lit (.bool true)], args := [d1, d2, d3, d4] }
  | _ => none }
def fnExactWaterForRow : OpenClaim := { program := "ythfaljninmcopaa", sum := "469df3f9516da803121c02eb21576472f2c4d130d07e8cb01c2df74c2f475d05", func := "loop.example/g01258/laws.FnExactWaterFor", spec := "fnExactWaterFor", unfollowed := true, recurses := true, apart := false }
def FnExactWaterForSaid : Prop := fnExactWaterForRow.holds Try.pinned (OpenSpec.ofChange fnExactWaterForSpec)

/-- ITS FALSE NEIGHBOUR: 'it returns false'. Refute it at one input. -/
def fnExactWaterForWrong : ChangeSpec := { name := "fnExactWaterFor", fn := fun _ => fun
  | [d1, d2, d3, d4] => { results := [.lit (.bool false)], args := [d1, d2, d3, d4] }
  | _ => none }
def FnExactWaterForWrongFalsely : Prop := fnExactWaterForRow.holds Try.pinned (OpenSpec.ofChange fnExactWaterForWrong)

/- THE SECOND FORM. 'bulk': how many values and letters a reading holds, each counted each time it is reached (what is shared counts as often as it is met; a slice's spare places count too). A statement '..UptoSaid' is the law's where the arguments, and the package variables that the reading takes, are together of bulk at most 1048576: NARROWER than '..Said'. Prove '..Said' where nothing that the law and all that it calls make is longer than what came in: it says more and counts as full. Else prove '..UptoSaid'. A law counts once. -/
mutual
def uptoBulk {H : Type} : DataW H → Nat
  | .lit (.string bytes) => bytes.length + 1
  | .lit _ => 1
  | .nil => 1
  | .ptr d => uptoBulk d + 1
  | .slice elems spare => uptoBulkAll elems + uptoBulkAll spare + 1
  | .agg parts => uptoBulkAll parts + 1
  | .iface _ d => uptoBulk d + 1
  | .map entries => uptoBulkEntries entries + 1
  | .held _ => 1
def uptoBulkAll {H : Type} : List (DataW H) → Nat
  | [] => 0
  | d :: r => uptoBulk d + uptoBulkAll r
def uptoBulkEntries {H : Type} : List (Lit × DataW H) → Nat
  | [] => 0
  | x :: r => uptoBulkEntry x + uptoBulkEntries r
def uptoBulkEntry {H : Type} : Lit × DataW H → Nat
  | (.string bytes, d) => bytes.length + uptoBulk d + 1
  | (_, d) => uptoBulk d + 1
 end
def uptoSmall : (H : Type) → List (DataW H) → Bool := fun _ ds => decide (uptoBulkAll ds ≤ 1048576)
def OpenSpec.upto (s : _root_.Go.ChangeSpec) : _root_.Go.OpenSpec := { _root_.Go.OpenSpec.ofChange s with cond := some uptoSmall }

/-- 'laws.FnExactIsCaravan', WHERE WHAT IT READS IS OF BULK AT MOST 1048576: true; the input reads as it did. -/
def fnExactIsCaravanUptoRow : OpenClaim := { program := "ythfaljninmcopaa", sum := "469df3f9516da803121c02eb21576472f2c4d130d07e8cb01c2df74c2f475d05", func := "loop.example/g01258/laws.FnExactIsCaravan", spec := "fnExactIsCaravan", unfollowed := true, recurses := true, apart := false, narrowed := true }
def FnExactIsCaravanUptoSaid : Prop := fnExactIsCaravanUptoRow.holds Try.pinned (OpenSpec.upto fnExactIsCaravanSpec)

/-- 'laws.FnExactPlaceAt', WHERE WHAT IT READS IS OF BULK AT MOST 1048576: true; the input reads as it did. -/
def fnExactPlaceAtUptoRow : OpenClaim := { program := "ythfaljninmcopaa", sum := "469df3f9516da803121c02eb21576472f2c4d130d07e8cb01c2df74c2f475d05", func := "loop.example/g01258/laws.FnExactPlaceAt", spec := "fnExactPlaceAt", unfollowed := true, recurses := true, apart := false, narrowed := true }
def FnExactPlaceAtUptoSaid : Prop := fnExactPlaceAtUptoRow.holds Try.pinned (OpenSpec.upto fnExactPlaceAtSpec)

/-- 'laws.FnExactTimeAt', WHERE WHAT IT READS IS OF BULK AT MOST 1048576: true; the input reads as it did. -/
def fnExactTimeAtUptoRow : OpenClaim := { program := "ythfaljninmcopaa", sum := "469df3f9516da803121c02eb21576472f2c4d130d07e8cb01c2df74c2f475d05", func := "loop.example/g01258/laws.FnExactTimeAt", spec := "fnExactTimeAt", unfollowed := true, recurses := true, apart := false, narrowed := true }
def FnExactTimeAtUptoSaid : Prop := fnExactTimeAtUptoRow.holds Try.pinned (OpenSpec.upto fnExactTimeAtSpec)

/-- 'laws.FnExactCatchTime', WHERE WHAT IT READS IS OF BULK AT MOST 1048576: true; the input reads as it did. -/
def fnExactCatchTimeUptoRow : OpenClaim := { program := "ythfaljninmcopaa", sum := "469df3f9516da803121c02eb21576472f2c4d130d07e8cb01c2df74c2f475d05", func := "loop.example/g01258/laws.FnExactCatchTime", spec := "fnExactCatchTime", unfollowed := true, recurses := true, apart := false, narrowed := true }
def FnExactCatchTimeUptoSaid : Prop := fnExactCatchTimeUptoRow.holds Try.pinned (OpenSpec.upto fnExactCatchTimeSpec)

/-- 'laws.FnExactCatchPlace', WHERE WHAT IT READS IS OF BULK AT MOST 1048576: true; the input reads as it did. -/
def fnExactCatchPlaceUptoRow : OpenClaim := { program := "ythfaljninmcopaa", sum := "469df3f9516da803121c02eb21576472f2c4d130d07e8cb01c2df74c2f475d05", func := "loop.example/g01258/laws.FnExactCatchPlace", spec := "fnExactCatchPlace", unfollowed := true, recurses := true, apart := false, narrowed := true }
def FnExactCatchPlaceUptoSaid : Prop := fnExactCatchPlaceUptoRow.holds Try.pinned (OpenSpec.upto fnExactCatchPlaceSpec)

/-- 'laws.FnExactColumnTime', WHERE WHAT IT READS IS OF BULK AT MOST 1048576: true; the input reads as it did. -/
def fnExactColumnTimeUptoRow : OpenClaim := { program := "ythfaljninmcopaa", sum := "469df3f9516da803121c02eb21576472f2c4d130d07e8cb01c2df74c2f475d05", func := "loop.example/g01258/laws.FnExactColumnTime", spec := "fnExactColumnTime", unfollowed := true, recurses := true, apart := false, narrowed := true }
def FnExactColumnTimeUptoSaid : Prop := fnExactColumnTimeUptoRow.holds Try.pinned (OpenSpec.upto fnExactColumnTimeSpec)

/-- 'laws.FnExactColumnWay', WHERE WHAT IT READS IS OF BULK AT MOST 1048576: true; the input reads as it did. -/
def fnExactColumnWayUptoRow : OpenClaim := { program := "ythfaljninmcopaa", sum := "469df3f9516da803121c02eb21576472f2c4d130d07e8cb01c2df74c2f475d05", func := "loop.example/g01258/laws.FnExactColumnWay", spec := "fnExactColumnWay", unfollowed := true, recurses := true, apart := false, narrowed := true }
def FnExactColumnWayUptoSaid : Prop := fnExactColumnWayUptoRow.holds Try.pinned (OpenSpec.upto fnExactColumnWaySpec)

/-- 'laws.FnExactFalconWay', WHERE WHAT IT READS IS OF BULK AT MOST 1048576: true; the input reads as it did. -/
def fnExactFalconWayUptoRow : OpenClaim := { program := "ythfaljninmcopaa", sum := "469df3f9516da803121c02eb21576472f2c4d130d07e8cb01c2df74c2f475d05", func := "loop.example/g01258/laws.FnExactFalconWay", spec := "fnExactFalconWay", unfollowed := true, recurses := true, apart := false, narrowed := true }
def FnExactFalconWayUptoSaid : Prop := fnExactFalconWayUptoRow.holds Try.pinned (OpenSpec.upto fnExactFalconWaySpec)

/-- 'laws.FnExactPassTime', WHERE WHAT IT READS IS OF BULK AT MOST 1048576: true; the input reads as it did. -/
def fnExactPassTimeUptoRow : OpenClaim := { program := "ythfaljninmcopaa", sum := "469df3f9516da803121c02eb21576472f2c4d130d07e8cb01c2df74c2f475d05", func := "loop.example/g01258/laws.FnExactPassTime", spec := "fnExactPassTime", unfollowed := true, recurses := true, apart := false, narrowed := true }
def FnExactPassTimeUptoSaid : Prop := fnExactPassTimeUptoRow.holds Try.pinned (OpenSpec.upto fnExactPassTimeSpec)

/-- 'laws.FnExactDaysFor', WHERE WHAT IT READS IS OF BULK AT MOST 1048576: true; the input reads as it did. -/
def fnExactDaysForUptoRow : OpenClaim := { program := "ythfaljninmcopaa", sum := "469df3f9516da803121c02eb21576472f2c4d130d07e8cb01c2df74c2f475d05", func := "loop.example/g01258/laws.FnExactDaysFor", spec := "fnExactDaysFor", unfollowed := true, recurses := true, apart := false, narrowed := true }
def FnExactDaysForUptoSaid : Prop := fnExactDaysForUptoRow.holds Try.pinned (OpenSpec.upto fnExactDaysForSpec)

/-- 'laws.FnExactPlaceOnDay', WHERE WHAT IT READS IS OF BULK AT MOST 1048576: true; the input reads as it did. -/
def fnExactPlaceOnDayUptoRow : OpenClaim := { program := "ythfaljninmcopaa", sum := "469df3f9516da803121c02eb21576472f2c4d130d07e8cb01c2df74c2f475d05", func := "loop.example/g01258/laws.FnExactPlaceOnDay", spec := "fnExactPlaceOnDay", unfollowed := true, recurses := true, apart := false, narrowed := true }
def FnExactPlaceOnDayUptoSaid : Prop := fnExactPlaceOnDayUptoRow.holds Try.pinned (OpenSpec.upto fnExactPlaceOnDaySpec)

/-- 'laws.FnExactWaterFor', WHERE WHAT IT READS IS OF BULK AT MOST 1048576: true; the input reads as it did. -/
def fnExactWaterForUptoRow : OpenClaim := { program := "ythfaljninmcopaa", sum := "469df3f9516da803121c02eb21576472f2c4d130d07e8cb01c2df74c2f475d05", func := "loop.example/g01258/laws.FnExactWaterFor", spec := "fnExactWaterFor", unfollowed := true, recurses := true, apart := false, narrowed := true }
def FnExactWaterForUptoSaid : Prop := fnExactWaterForUptoRow.holds Try.pinned (OpenSpec.upto fnExactWaterForSpec)

end Rows
end Go.Proofs.Ythfaljninmcopaa
