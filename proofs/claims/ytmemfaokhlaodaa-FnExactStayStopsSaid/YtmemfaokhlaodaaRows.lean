/-
  No cell of these rows narrows 'for every input' (looked for: loops, veiled, ifaces, maps, wideKeys, modest, calm, conditions, laid).
  DERIVED. THE GIVEN ROWS OF THIS SEAT. 14 by the template 'for every input the law returns true; each argument reads behind the call as it read before'; 0 by the template 'total and deterministic' (their statements: YtmemfaokhlaodaaTotals.lean).
  GIVEN WITH THE SEED: the statements are not yours to turn. If you find one false, say at which input.
  Laid BY PROGRAM, IN A SANDBOX (cutbox-rows.mjs): the forced cells as the released guide's own fill.sh prints them over the translation bbaa96b2dad1d9aa… (all of the seat's roots in one cut). By AI agents, Wed Nov 11 2026. No macro, syntax, notation, axiom, sorry.
-/
import Derived.Test.YtmemfaokhlaodaaChecked
import GoSem.Claim
import GoSem.ClaimJoined
import GoSem.ClaimMapViews
import Derived.JoinedTies
import Derived.KernelRfl
namespace Go.Proofs.Ytmemfaokhlaodaa
/- THE CELL 'sum', in the pinned program and in every row, IS THE sha256 OF THE DUMP (.gsa) THAT YtmemfaokhlaodaaProg.lean LOADS. Nothing in Lean hashes anything: it is a label: what it is worth is what the hold of that sum in a sandbox is worth. -/
noncomputable def Try.pinned : Pinned := { name := "ytmemfaokhlaodaa", sum := "bbaa96b2dad1d9aa2a9e9090f1b15090396f4352a4c1f9f4126abd3e02c23185", checked := Try.checked }
namespace Rows
def none {H : Type} : Left H := { results := [], args := [] }

/-- 'laws.FnExactStayReach': WHATEVER THE INPUT: true; the input reads as it did. -/
def fnExactStayReachSpec : ChangeSpec := { name := "fnExactStayReach", fn := fun _ => fun
  | [d] => { results := [.lit (.bool true)], args := [d] }
  | _ => none }
def fnExactStayReachRow : OpenClaim := { program := "ytmemfaokhlaodaa", sum := "bbaa96b2dad1d9aa2a9e9090f1b15090396f4352a4c1f9f4126abd3e02c23185", func := "loop.example/g01258/laws.FnExactStayReach", spec := "fnExactStayReach", unfollowed := true, recurses := true, apart := false }
def FnExactStayReachSaid : Prop := fnExactStayReachRow.holds Try.pinned (OpenSpec.ofChange fnExactStayReachSpec)

/-- ITS FALSE NEIGHBOUR: 'it returns false'. Refute it at one input. -/
def fnExactStayReachWrong : ChangeSpec := { name := "fnExactStayReach", fn := fun _ => fun
  | [d] => { results := [.lit (.bool false)], args := [d] }
  | _ => none }
def FnExactStayReachWrongFalsely : Prop := fnExactStayReachRow.holds Try.pinned (OpenSpec.ofChange fnExactStayReachWrong)

/-- 'laws.FnExactStayStops': WHATEVER THE INPUT: true; the input reads as it did. -/
def fnExactStayStopsSpec : ChangeSpec := { name := "fnExactStayStops", fn := fun _ => fun
  | [d] => { results := [.lit (.bool true)], args := [d] }
  | _ => none }
def fnExactStayStopsRow : OpenClaim := { program := "ytmemfaokhlaodaa", sum := "bbaa96b2dad1d9aa2a9e9090f1b15090396f4352a4c1f9f4126abd3e02c23185", func := "loop.example/g01258/laws.FnExactStayStops", spec := "fnExactStayStops", unfollowed := true, recurses := true, apart := false }
def FnExactStayStopsSaid : Prop := fnExactStayStopsRow.holds Try.pinned (OpenSpec.ofChange fnExactStayStopsSpec)

/-- ITS FALSE NEIGHBOUR: 'it returns false'. Refute it at one input. -/
def fnExactStayStopsWrong : ChangeSpec := { name := "fnExactStayStops", fn := fun _ => fun
  | [d] => { results := [.lit (.bool false)], args := [d] }
  | _ => none }
def FnExactStayStopsWrongFalsely : Prop := fnExactStayStopsRow.holds Try.pinned (OpenSpec.ofChange fnExactStayStopsWrong)

/-- 'laws.FnExactBackReach': WHATEVER THE INPUT: true; the input reads as it did. -/
def fnExactBackReachSpec : ChangeSpec := { name := "fnExactBackReach", fn := fun _ => fun
  | [d] => { results := [.lit (.bool true)], args := [d] }
  | _ => none }
def fnExactBackReachRow : OpenClaim := { program := "ytmemfaokhlaodaa", sum := "bbaa96b2dad1d9aa2a9e9090f1b15090396f4352a4c1f9f4126abd3e02c23185", func := "loop.example/g01258/laws.FnExactBackReach", spec := "fnExactBackReach", apart := false }
def FnExactBackReachSaid : Prop := fnExactBackReachRow.holds Try.pinned (OpenSpec.ofChange fnExactBackReachSpec)

/-- ITS FALSE NEIGHBOUR: 'it returns false'. Refute it at one input. -/
def fnExactBackReachWrong : ChangeSpec := { name := "fnExactBackReach", fn := fun _ => fun
  | [d] => { results := [.lit (.bool false)], args := [d] }
  | _ => none }
def FnExactBackReachWrongFalsely : Prop := fnExactBackReachRow.holds Try.pinned (OpenSpec.ofChange fnExactBackReachWrong)

/-- 'laws.FnExactBackStops': WHATEVER THE INPUT: true; the input reads as it did. -/
def fnExactBackStopsSpec : ChangeSpec := { name := "fnExactBackStops", fn := fun _ => fun
  | [d] => { results := [.lit (.bool true)], args := [d] }
  | _ => none }
def fnExactBackStopsRow : OpenClaim := { program := "ytmemfaokhlaodaa", sum := "bbaa96b2dad1d9aa2a9e9090f1b15090396f4352a4c1f9f4126abd3e02c23185", func := "loop.example/g01258/laws.FnExactBackStops", spec := "fnExactBackStops", unfollowed := true, recurses := true, apart := false }
def FnExactBackStopsSaid : Prop := fnExactBackStopsRow.holds Try.pinned (OpenSpec.ofChange fnExactBackStopsSpec)

/-- ITS FALSE NEIGHBOUR: 'it returns false'. Refute it at one input. -/
def fnExactBackStopsWrong : ChangeSpec := { name := "fnExactBackStops", fn := fun _ => fun
  | [d] => { results := [.lit (.bool false)], args := [d] }
  | _ => none }
def FnExactBackStopsWrongFalsely : Prop := fnExactBackStopsRow.holds Try.pinned (OpenSpec.ofChange fnExactBackStopsWrong)

/-- 'laws.FnExactReturnReach': WHATEVER THE INPUT: true; the input reads as it did. -/
def fnExactReturnReachSpec : ChangeSpec := { name := "fnExactReturnReach", fn := fun _ => fun
  | [d] => { results := [.lit (.bool true)], args := [d] }
  | _ => none }
def fnExactReturnReachRow : OpenClaim := { program := "ytmemfaokhlaodaa", sum := "bbaa96b2dad1d9aa2a9e9090f1b15090396f4352a4c1f9f4126abd3e02c23185", func := "loop.example/g01258/laws.FnExactReturnReach", spec := "fnExactReturnReach", apart := false }
def FnExactReturnReachSaid : Prop := fnExactReturnReachRow.holds Try.pinned (OpenSpec.ofChange fnExactReturnReachSpec)

/-- ITS FALSE NEIGHBOUR: 'it returns false'. Refute it at one input. -/
def fnExactReturnReachWrong : ChangeSpec := { name := "fnExactReturnReach", fn := fun _ => fun
  | [d] => { results := [.lit (.bool false)], args := [d] }
  | _ => none }
def FnExactReturnReachWrongFalsely : Prop := fnExactReturnReachRow.holds Try.pinned (OpenSpec.ofChange fnExactReturnReachWrong)

/-- 'laws.FnExactVehiclesToStay': WHATEVER THE INPUT: true; the input reads as it did. -/
def fnExactVehiclesToStaySpec : ChangeSpec := { name := "fnExactVehiclesToStay", fn := fun _ => fun
  | [d] => { results := [.lit (.bool true)], args := [d] }
  | _ => none }
def fnExactVehiclesToStayRow : OpenClaim := { program := "ytmemfaokhlaodaa", sum := "bbaa96b2dad1d9aa2a9e9090f1b15090396f4352a4c1f9f4126abd3e02c23185", func := "loop.example/g01258/laws.FnExactVehiclesToStay", spec := "fnExactVehiclesToStay", unfollowed := true, recurses := true, apart := false }
def FnExactVehiclesToStaySaid : Prop := fnExactVehiclesToStayRow.holds Try.pinned (OpenSpec.ofChange fnExactVehiclesToStaySpec)

/-- ITS FALSE NEIGHBOUR: 'it returns false'. Refute it at one input. -/
def fnExactVehiclesToStayWrong : ChangeSpec := { name := "fnExactVehiclesToStay", fn := fun _ => fun
  | [d] => { results := [.lit (.bool false)], args := [d] }
  | _ => none }
def FnExactVehiclesToStayWrongFalsely : Prop := fnExactVehiclesToStayRow.holds Try.pinned (OpenSpec.ofChange fnExactVehiclesToStayWrong)

/-- 'laws.FnExactVehiclesToGo': WHATEVER THE INPUT: true; the input reads as it did. -/
def fnExactVehiclesToGoSpec : ChangeSpec := { name := "fnExactVehiclesToGo", fn := fun _ => fun
  | [d] => { results := [.lit (.bool true)], args := [d] }
  | _ => none }
def fnExactVehiclesToGoRow : OpenClaim := { program := "ytmemfaokhlaodaa", sum := "bbaa96b2dad1d9aa2a9e9090f1b15090396f4352a4c1f9f4126abd3e02c23185", func := "loop.example/g01258/laws.FnExactVehiclesToGo", spec := "fnExactVehiclesToGo", unfollowed := true, recurses := true, apart := false }
def FnExactVehiclesToGoSaid : Prop := fnExactVehiclesToGoRow.holds Try.pinned (OpenSpec.ofChange fnExactVehiclesToGoSpec)

/-- ITS FALSE NEIGHBOUR: 'it returns false'. Refute it at one input. -/
def fnExactVehiclesToGoWrong : ChangeSpec := { name := "fnExactVehiclesToGo", fn := fun _ => fun
  | [d] => { results := [.lit (.bool false)], args := [d] }
  | _ => none }
def FnExactVehiclesToGoWrongFalsely : Prop := fnExactVehiclesToGoRow.holds Try.pinned (OpenSpec.ofChange fnExactVehiclesToGoWrong)

/-- 'laws.FnExactVehiclesToReturn': WHATEVER THE INPUT: true; the input reads as it did. -/
def fnExactVehiclesToReturnSpec : ChangeSpec := { name := "fnExactVehiclesToReturn", fn := fun _ => fun
  | [d] => { results := [.lit (.bool true)], args := [d] }
  | _ => none }
def fnExactVehiclesToReturnRow : OpenClaim := { program := "ytmemfaokhlaodaa", sum := "bbaa96b2dad1d9aa2a9e9090f1b15090396f4352a4c1f9f4126abd3e02c23185", func := "loop.example/g01258/laws.FnExactVehiclesToReturn", spec := "fnExactVehiclesToReturn", unfollowed := true, recurses := true, apart := false }
def FnExactVehiclesToReturnSaid : Prop := fnExactVehiclesToReturnRow.holds Try.pinned (OpenSpec.ofChange fnExactVehiclesToReturnSpec)

/-- ITS FALSE NEIGHBOUR: 'it returns false'. Refute it at one input. -/
def fnExactVehiclesToReturnWrong : ChangeSpec := { name := "fnExactVehiclesToReturn", fn := fun _ => fun
  | [d] => { results := [.lit (.bool false)], args := [d] }
  | _ => none }
def FnExactVehiclesToReturnWrongFalsely : Prop := fnExactVehiclesToReturnRow.holds Try.pinned (OpenSpec.ofChange fnExactVehiclesToReturnWrong)

/-- 'laws.FnExactRescueReach': WHATEVER THE INPUT: true; the input reads as it did. -/
def fnExactRescueReachSpec : ChangeSpec := { name := "fnExactRescueReach", fn := fun _ => fun
  | [d] => { results := [.lit (.bool true)], args := [d] }
  | _ => none }
def fnExactRescueReachRow : OpenClaim := { program := "ytmemfaokhlaodaa", sum := "bbaa96b2dad1d9aa2a9e9090f1b15090396f4352a4c1f9f4126abd3e02c23185", func := "loop.example/g01258/laws.FnExactRescueReach", spec := "fnExactRescueReach", apart := false }
def FnExactRescueReachSaid : Prop := fnExactRescueReachRow.holds Try.pinned (OpenSpec.ofChange fnExactRescueReachSpec)

/-- ITS FALSE NEIGHBOUR: 'it returns false'. Refute it at one input. -/
def fnExactRescueReachWrong : ChangeSpec := { name := "fnExactRescueReach", fn := fun _ => fun
  | [d] => { results := [.lit (.bool false)], args := [d] }
  | _ => none }
def FnExactRescueReachWrongFalsely : Prop := fnExactRescueReachRow.holds Try.pinned (OpenSpec.ofChange fnExactRescueReachWrong)

/-- 'laws.FnExactRescueStops': WHATEVER THE INPUT: true; the input reads as it did. -/
def fnExactRescueStopsSpec : ChangeSpec := { name := "fnExactRescueStops", fn := fun _ => fun
  | [d] => { results := [.lit (.bool true)], args := [d] }
  | _ => none }
def fnExactRescueStopsRow : OpenClaim := { program := "ytmemfaokhlaodaa", sum := "bbaa96b2dad1d9aa2a9e9090f1b15090396f4352a4c1f9f4126abd3e02c23185", func := "loop.example/g01258/laws.FnExactRescueStops", spec := "fnExactRescueStops", unfollowed := true, recurses := true, apart := false }
def FnExactRescueStopsSaid : Prop := fnExactRescueStopsRow.holds Try.pinned (OpenSpec.ofChange fnExactRescueStopsSpec)

/-- ITS FALSE NEIGHBOUR: 'it returns false'. Refute it at one input. -/
def fnExactRescueStopsWrong : ChangeSpec := { name := "fnExactRescueStops", fn := fun _ => fun
  | [d] => { results := [.lit (.bool false)], args := [d] }
  | _ => none }
def FnExactRescueStopsWrongFalsely : Prop := fnExactRescueStopsRow.holds Try.pinned (OpenSpec.ofChange fnExactRescueStopsWrong)

/-- 'laws.FnExactRingReach': WHATEVER THE INPUT: true; the input reads as it did. -/
def fnExactRingReachSpec : ChangeSpec := { name := "fnExactRingReach", fn := fun _ => fun
  | [d] => { results := [.lit (.bool true)], args := [d] }
  | _ => none }
def fnExactRingReachRow : OpenClaim := { program := "ytmemfaokhlaodaa", sum := "bbaa96b2dad1d9aa2a9e9090f1b15090396f4352a4c1f9f4126abd3e02c23185", func := "loop.example/g01258/laws.FnExactRingReach", spec := "fnExactRingReach", unfollowed := true, recurses := true, apart := false }
def FnExactRingReachSaid : Prop := fnExactRingReachRow.holds Try.pinned (OpenSpec.ofChange fnExactRingReachSpec)

/-- ITS FALSE NEIGHBOUR: 'it returns false'. Refute it at one input. -/
def fnExactRingReachWrong : ChangeSpec := { name := "fnExactRingReach", fn := fun _ => fun
  | [d] => { results := [.lit (.bool false)], args := [d] }
  | _ => none }
def FnExactRingReachWrongFalsely : Prop := fnExactRingReachRow.holds Try.pinned (OpenSpec.ofChange fnExactRingReachWrong)

/-- 'laws.FnExactVehiclesForRing': WHATEVER THE INPUT: true; the input reads as it did. -/
def fnExactVehiclesForRingSpec : ChangeSpec := { name := "fnExactVehiclesForRing", fn := fun _ => fun
  | [d] => { results := [.lit (.bool true)], args := [d] }
  | _ => none }
def fnExactVehiclesForRingRow : OpenClaim := { program := "ytmemfaokhlaodaa", sum := "bbaa96b2dad1d9aa2a9e9090f1b15090396f4352a4c1f9f4126abd3e02c23185", func := "loop.example/g01258/laws.FnExactVehiclesForRing", spec := "fnExactVehiclesForRing", unfollowed := true, recurses := true, apart := false }
def FnExactVehiclesForRingSaid : Prop := fnExactVehiclesForRingRow.holds Try.pinned (OpenSpec.ofChange fnExactVehiclesForRingSpec)

/-- ITS FALSE NEIGHBOUR: 'it returns false'. Refute it at one input. -/
def fnExactVehiclesForRingWrong : ChangeSpec := { name := "fnExactVehiclesForRing", fn := fun _ => fun
  | [d] => { results := [.lit (.bool false)], args := [d] }
  | _ => none }
def FnExactVehiclesForRingWrongFalsely : Prop := fnExactVehiclesForRingRow.holds Try.pinned (OpenSpec.ofChange fnExactVehiclesForRingWrong)

/-- 'laws.FnExactDrivenByAll': WHATEVER THE INPUT: true; the input reads as it did. -/
def fnExactDrivenByAllSpec : ChangeSpec := { name := "fnExactDrivenByAll", fn := fun _ => fun
  | [d] => { results := [.lit (.bool true)], args := [d] }
  | _ => none }
def fnExactDrivenByAllRow : OpenClaim := { program := "ytmemfaokhlaodaa", sum := "bbaa96b2dad1d9aa2a9e9090f1b15090396f4352a4c1f9f4126abd3e02c23185", func := "loop.example/g01258/laws.FnExactDrivenByAll", spec := "fnExactDrivenByAll", apart := false }
def FnExactDrivenByAllSaid : Prop := fnExactDrivenByAllRow.holds Try.pinned (OpenSpec.ofChange fnExactDrivenByAllSpec)

/-- ITS FALSE NEIGHBOUR: 'it returns false'. Refute it at one input. -/
def fnExactDrivenByAllWrong : ChangeSpec := { name := "fnExactDrivenByAll", fn := fun _ => fun
  | [d] => { results := [.lit (.bool false)], args := [d] }
  | _ => none }
def FnExactDrivenByAllWrongFalsely : Prop := fnExactDrivenByAllRow.holds Try.pinned (OpenSpec.ofChange fnExactDrivenByAllWrong)

/-- 'laws.FnExactLastFull': WHATEVER THE INPUT: true; the input reads as it did. -/
def fnExactLastFullSpec : ChangeSpec := { name := "fnExactLastFull", fn := fun _ => fun
  | [d] => { results := [.lit (.bool true)], args := [d] }
  | _ => none }
def fnExactLastFullRow : OpenClaim := { program := "ytmemfaokhlaodaa", sum := "bbaa96b2dad1d9aa2a9e9090f1b15090396f4352a4c1f9f4126abd3e02c23185", func := "loop.example/g01258/laws.FnExactLastFull", spec := "fnExactLastFull", apart := false }
def FnExactLastFullSaid : Prop := fnExactLastFullRow.holds Try.pinned (OpenSpec.ofChange fnExactLastFullSpec)

/-- ITS FALSE NEIGHBOUR: 'it returns false'. Refute it at one input. -/
def fnExactLastFullWrong : ChangeSpec := { name := "fnExactLastFull", fn := fun _ => fun
  | [d] => { results := [.lit (.bool false)], args := [d] }
  | _ => none }
def FnExactLastFullWrongFalsely : Prop := fnExactLastFullRow.holds Try.pinned (OpenSpec.ofChange fnExactLastFullWrong)

/- THE SECOND FORM. 'bulk': how many values and letters a reading holds, each counted each time it is reached (what is shared counts as often as it is met; a slice's spare places count too). A statement '..UptoSaid' is the law's where the arguments, and the package variables that the reading takes, are together of bulk at most 1048576: NARROWER than '..Said'. Prove '..Said' where nothing that the law and all that it calls make is longer than what came in: it says more and counts as full. Else prove '..UptoSaid'. A law counts once. -/
mutual
def uptoBulk {H : Type} : DataW H → Nat
  | .lit (.string bytes) => bytes.length + 1
  | .lit _ => 1
  | .nil => 1
  | .ptr d => uptoBulk d + 1
  | .slice elems spare => uptoBulkAll elems + uptoBulkAll spare + 1
  | .agg parts => uptoBulkAll parts + 1
  | .iface _ d => uptoBulk d + 1
  | .map entries => uptoBulkEntries entries + 1
  | .held _ => 1
def uptoBulkAll {H : Type} : List (DataW H) → Nat
  | [] => 0
  | d :: r => uptoBulk d + uptoBulkAll r
def uptoBulkEntries {H : Type} : List (Lit × DataW H) → Nat
  | [] => 0
  | x :: r => uptoBulkEntry x + uptoBulkEntries r
def uptoBulkEntry {H : Type} : Lit × DataW H → Nat
  | (.string bytes, d) => bytes.length + uptoBulk d + 1
  | (_, d) => uptoBulk d + 1
 end
def uptoSmall : (H : Type) → List (DataW H) → Bool := fun _ ds => decide (uptoBulkAll ds ≤ 1048576)
def OpenSpec.upto (s : _root_.Go.ChangeSpec) : _root_.Go.OpenSpec := { _root_.Go.OpenSpec.ofChange s with cond := some uptoSmall }

/-- 'laws.FnExactStayReach', WHERE WHAT IT READS IS OF BULK AT MOST 1048576: true; the input reads as it did. -/
def fnExactStayReachUptoRow : OpenClaim := { program := "ytmemfaokhlaodaa", sum := "bbaa96b2dad1d9aa2a9e9090f1b15090396f4352a4c1f9f4126abd3e02c23185", func := "loop.example/g01258/laws.FnExactStayReach", spec := "fnExactStayReach", unfollowed := true, recurses := true, apart := false, narrowed := true }
def FnExactStayReachUptoSaid : Prop := fnExactStayReachUptoRow.holds Try.pinned (OpenSpec.upto fnExactStayReachSpec)

/-- 'laws.FnExactStayStops', WHERE WHAT IT READS IS OF BULK AT MOST 1048576: true; the input reads as it did. -/
def fnExactStayStopsUptoRow : OpenClaim := { program := "ytmemfaokhlaodaa", sum := "bbaa96b2dad1d9aa2a9e9090f1b15090396f4352a4c1f9f4126abd3e02c23185", func := "loop.example/g01258/laws.FnExactStayStops", spec := "fnExactStayStops", unfollowed := true, recurses := true, apart := false, narrowed := true }
def FnExactStayStopsUptoSaid : Prop := fnExactStayStopsUptoRow.holds Try.pinned (OpenSpec.upto fnExactStayStopsSpec)

/-- 'laws.FnExactBackReach', WHERE WHAT IT READS IS OF BULK AT MOST 1048576: true; the input reads as it did. -/
def fnExactBackReachUptoRow : OpenClaim := { program := "ytmemfaokhlaodaa", sum := "bbaa96b2dad1d9aa2a9e9090f1b15090396f4352a4c1f9f4126abd3e02c23185", func := "loop.example/g01258/laws.FnExactBackReach", spec := "fnExactBackReach", apart := false, narrowed := true }
def FnExactBackReachUptoSaid : Prop := fnExactBackReachUptoRow.holds Try.pinned (OpenSpec.upto fnExactBackReachSpec)

/-- 'laws.FnExactBackStops', WHERE WHAT IT READS IS OF BULK AT MOST 1048576: true; the input reads as it did. -/
def fnExactBackStopsUptoRow : OpenClaim := { program := "ytmemfaokhlaodaa", sum := "bbaa96b2dad1d9aa2a9e9090f1b15090396f4352a4c1f9f4126abd3e02c23185", func := "loop.example/g01258/laws.FnExactBackStops", spec := "fnExactBackStops", unfollowed := true, recurses := true, apart := false, narrowed := true }
def FnExactBackStopsUptoSaid : Prop := fnExactBackStopsUptoRow.holds Try.pinned (OpenSpec.upto fnExactBackStopsSpec)

/-- 'laws.FnExactReturnReach', WHERE WHAT IT READS IS OF BULK AT MOST 1048576: true; the input reads as it did. -/
def fnExactReturnReachUptoRow : OpenClaim := { program := "ytmemfaokhlaodaa", sum := "bbaa96b2dad1d9aa2a9e9090f1b15090396f4352a4c1f9f4126abd3e02c23185", func := "loop.example/g01258/laws.FnExactReturnReach", spec := "fnExactReturnReach", apart := false, narrowed := true }
def FnExactReturnReachUptoSaid : Prop := fnExactReturnReachUptoRow.holds Try.pinned (OpenSpec.upto fnExactReturnReachSpec)

/-- 'laws.FnExactVehiclesToStay', WHERE WHAT IT READS IS OF BULK AT MOST 1048576: true; the input reads as it did. -/
def fnExactVehiclesToStayUptoRow : OpenClaim := { program := "ytmemfaokhlaodaa", sum := "bbaa96b2dad1d9aa2a9e9090f1b15090396f4352a4c1f9f4126abd3e02c23185", func := "loop.example/g01258/laws.FnExactVehiclesToStay", spec := "fnExactVehiclesToStay", unfollowed := true, recurses := true, apart := false, narrowed := true }
def FnExactVehiclesToStayUptoSaid : Prop := fnExactVehiclesToStayUptoRow.holds Try.pinned (OpenSpec.upto fnExactVehiclesToStaySpec)

/-- 'laws.FnExactVehiclesToGo', WHERE WHAT IT READS IS OF BULK AT MOST 1048576: true; the input reads as it did. -/
def fnExactVehiclesToGoUptoRow : OpenClaim := { program := "ytmemfaokhlaodaa", sum := "bbaa96b2dad1d9aa2a9e9090f1b15090396f4352a4c1f9f4126abd3e02c23185", func := "loop.example/g01258/laws.FnExactVehiclesToGo", spec := "fnExactVehiclesToGo", unfollowed := true, recurses := true, apart := false, narrowed := true }
def FnExactVehiclesToGoUptoSaid : Prop := fnExactVehiclesToGoUptoRow.holds Try.pinned (OpenSpec.upto fnExactVehiclesToGoSpec)

/-- 'laws.FnExactVehiclesToReturn', WHERE WHAT IT READS IS OF BULK AT MOST 1048576: true; the input reads as it did. -/
def fnExactVehiclesToReturnUptoRow : OpenClaim := { program := "ytmemfaokhlaodaa", sum := "bbaa96b2dad1d9aa2a9e9090f1b15090396f4352a4c1f9f4126abd3e02c23185", func := "loop.example/g01258/laws.FnExactVehiclesToReturn", spec := "fnExactVehiclesToReturn", unfollowed := true, recurses := true, apart := false, narrowed := true }
def FnExactVehiclesToReturnUptoSaid : Prop := fnExactVehiclesToReturnUptoRow.holds Try.pinned (OpenSpec.upto fnExactVehiclesToReturnSpec)

/-- 'laws.FnExactRescueReach', WHERE WHAT IT READS IS OF BULK AT MOST 1048576: true; the input reads as it did. -/
def fnExactRescueReachUptoRow : OpenClaim := { program := "ytmemfaokhlaodaa", sum := "bbaa96b2dad1d9aa2a9e9090f1b15090396f4352a4c1f9f4126abd3e02c23185", func := "loop.example/g01258/laws.FnExactRescueReach", spec := "fnExactRescueReach", apart := false, narrowed := true }
def FnExactRescueReachUptoSaid : Prop := fnExactRescueReachUptoRow.holds Try.pinned (OpenSpec.upto fnExactRescueReachSpec)

/-- 'laws.FnExactRescueStops', WHERE WHAT IT READS IS OF BULK AT MOST 1048576: true; the input reads as it did. -/
def fnExactRescueStopsUptoRow : OpenClaim := { program := "ytmemfaokhlaodaa", sum := "bbaa96b2dad1d9aa2a9e9090f1b15090396f4352a4c1f9f4126abd3e02c23185", func := "loop.example/g01258/laws.FnExactRescueStops", spec := "fnExactRescueStops", unfollowed := true, recurses := true, apart := false, narrowed := true }
def FnExactRescueStopsUptoSaid : Prop := fnExactRescueStopsUptoRow.holds Try.pinned (OpenSpec.upto fnExactRescueStopsSpec)

/-- 'laws.FnExactRingReach', WHERE WHAT IT READS IS OF BULK AT MOST 1048576: true; the input reads as it did. -/
def fnExactRingReachUptoRow : OpenClaim := { program := "ytmemfaokhlaodaa", sum := "bbaa96b2dad1d9aa2a9e9090f1b15090396f4352a4c1f9f4126abd3e02c23185", func := "loop.example/g01258/laws.FnExactRingReach", spec := "fnExactRingReach", unfollowed := true, recurses := true, apart := false, narrowed := true }
def FnExactRingReachUptoSaid : Prop := fnExactRingReachUptoRow.holds Try.pinned (OpenSpec.upto fnExactRingReachSpec)

/-- 'laws.FnExactVehiclesForRing', WHERE WHAT IT READS IS OF BULK AT MOST 1048576: true; the input reads as it did. -/
def fnExactVehiclesForRingUptoRow : OpenClaim := { program := "ytmemfaokhlaodaa", sum := "bbaa96b2dad1d9aa2a9e9090f1b15090396f4352a4c1f9f4126abd3e02c23185", func := "loop.example/g01258/laws.FnExactVehiclesForRing", spec := "fnExactVehiclesForRing", unfollowed := true, recurses := true, apart := false, narrowed := true }
def FnExactVehiclesForRingUptoSaid : Prop := fnExactVehiclesForRingUptoRow.holds Try.pinned (OpenSpec.upto fnExactVehiclesForRingSpec)

/-- 'laws.FnExactDrivenByAll', WHERE WHAT IT READS IS OF BULK AT MOST 1048576: true; the input reads as it did. -/
def fnExactDrivenByAllUptoRow : OpenClaim := { program := "ytmemfaokhlaodaa", sum := "bbaa96b2dad1d9aa2a9e9090f1b15090396f4352a4c1f9f4126abd3e02c23185", func := "loop.example/g01258/laws.FnExactDrivenByAll", spec := "fnExactDrivenByAll", apart := false, narrowed := true }
def FnExactDrivenByAllUptoSaid : Prop := fnExactDrivenByAllUptoRow.holds Try.pinned (OpenSpec.upto fnExactDrivenByAllSpec)

/-- 'laws.FnExactLastFull', WHERE WHAT IT READS IS OF BULK AT MOST 1048576: true; the input reads as it did. -/
def fnExactLastFullUptoRow : OpenClaim := { program := "ytmemfaokhlaodaa", sum := "bbaa96b2dad1d9aa2a9e9090f1b15090396f4352a4c1f9f4126abd3e02c23185", func := "loop.example/g01258/laws.FnExactLastFull", spec := "fnExactLastFull", apart := false, narrowed := true }
def FnExactLastFullUptoSaid : Prop := fnExactLastFullUptoRow.holds Try.pinned (OpenSpec.upto fnExactLastFullSpec)

end Rows
end Go.Proofs.Ytmemfaokhlaodaa
