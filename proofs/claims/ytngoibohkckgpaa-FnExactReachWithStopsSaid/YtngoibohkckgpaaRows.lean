/-
  No cell of these rows narrows 'for every input' (looked for: loops, veiled, ifaces, maps, wideKeys, modest, calm, conditions, laid).
  DERIVED. THE GIVEN ROWS OF THIS SEAT. 6 by the template 'for every input the law returns true; each argument reads behind the call as it read before'; 0 by the template 'total and deterministic' (their statements: YtngoibohkckgpaaTotals.lean).
  GIVEN WITH THE SEED: the statements are not yours to turn. If you find one false, say at which input.
  Laid BY PROGRAM, IN A SANDBOX (cutbox-rows.mjs): the forced cells as the released guide's own fill.sh prints them over the translation 5100d5b457b3e04e… (all of the seat's roots in one cut). By AI agents, Wed Nov 11 2026. No macro, syntax, notation, axiom, sorry.
-/
import Derived.Test.YtngoibohkckgpaaChecked
import GoSem.Claim
import GoSem.ClaimJoined
import GoSem.ClaimMapViews
import Derived.JoinedTies
import Derived.KernelRfl
namespace Go.Proofs.Ytngoibohkckgpaa
/- THE CELL 'sum', in the pinned program and in every row, IS THE sha256 OF THE DUMP (.gsa) THAT YtngoibohkckgpaaProg.lean LOADS. Nothing in Lean hashes anything: it is a label: what it is worth is what the hold of that sum in a sandbox is worth. -/
noncomputable def Try.pinned : Pinned := { name := "ytngoibohkckgpaa", sum := "5100d5b457b3e04e1cdf6170cf3d8d5a69e0c5e70a6f59fec7bbb20428d7d289", checked := Try.checked }
namespace Rows
def none {H : Type} : Left H := { results := [], args := [] }

/-- 'laws.FnExactGreedyStops': WHATEVER THE INPUT: true; the input reads as it did. -/
def fnExactGreedyStopsSpec : ChangeSpec := { name := "fnExactGreedyStops", fn := fun _ => fun
  | [d] => { results := [.lit (.bool true)], args := [d] }
  | _ => none }
def fnExactGreedyStopsRow : OpenClaim := { program := "ytngoibohkckgpaa", sum := "5100d5b457b3e04e1cdf6170cf3d8d5a69e0c5e70a6f59fec7bbb20428d7d289", func := "loop.example/g01258/laws.FnExactGreedyStops", spec := "fnExactGreedyStops", unfollowed := true, recurses := true, plainKeys := false, apart := false }
def FnExactGreedyStopsSaid : Prop := fnExactGreedyStopsRow.holds Try.pinned (OpenSpec.ofChange fnExactGreedyStopsSpec)

/-- ITS FALSE NEIGHBOUR: 'it returns false'. Refute it at one input. -/
def fnExactGreedyStopsWrong : ChangeSpec := { name := "fnExactGreedyStops", fn := fun _ => fun
  | [d] => { results := [.lit (.bool false)], args := [d] }
  | _ => none }
def FnExactGreedyStopsWrongFalsely : Prop := fnExactGreedyStopsRow.holds Try.pinned (OpenSpec.ofChange fnExactGreedyStopsWrong)

/-- 'laws.FnExactReachWithStops': WHATEVER THE INPUT: true; the input reads as it did. -/
def fnExactReachWithStopsSpec : ChangeSpec := { name := "fnExactReachWithStops", fn := fun _ => fun
  | [d1, d2] => { results := [.lit (.bool true)], args := [d1, d2] }
  | _ => none }
def fnExactReachWithStopsRow : OpenClaim := { program := "ytngoibohkckgpaa", sum := "5100d5b457b3e04e1cdf6170cf3d8d5a69e0c5e70a6f59fec7bbb20428d7d289", func := "loop.example/g01258/laws.FnExactReachWithStops", spec := "fnExactReachWithStops", unfollowed := true, recurses := true, plainKeys := false, apart := false }
def FnExactReachWithStopsSaid : Prop := fnExactReachWithStopsRow.holds Try.pinned (OpenSpec.ofChange fnExactReachWithStopsSpec)

/-- ITS FALSE NEIGHBOUR: 'it returns false'. Refute it at one input. -/
def fnExactReachWithStopsWrong : ChangeSpec := { name := "fnExactReachWithStops", fn := fun _ => fun
  | [d1, d2] => { results := [.lit (.bool false)], args := [d1, d2] }
  | _ => none }
def FnExactReachWithStopsWrongFalsely : Prop := fnExactReachWithStopsRow.holds Try.pinned (OpenSpec.ofChange fnExactReachWithStopsWrong)

/-- 'laws.FnExactBackRoad': WHATEVER THE INPUT: true; the input reads as it did. -/
def fnExactBackRoadSpec : ChangeSpec := { name := "fnExactBackRoad", fn := fun _ => fun
  | [d] => { results := [.lit (.bool true)], args := [d] }
  | _ => none }
def fnExactBackRoadRow : OpenClaim := { program := "ytngoibohkckgpaa", sum := "5100d5b457b3e04e1cdf6170cf3d8d5a69e0c5e70a6f59fec7bbb20428d7d289", func := "loop.example/g01258/laws.FnExactBackRoad", spec := "fnExactBackRoad", unfollowed := true, recurses := true, plainKeys := false, apart := false }
def FnExactBackRoadSaid : Prop := fnExactBackRoadRow.holds Try.pinned (OpenSpec.ofChange fnExactBackRoadSpec)

/-- ITS FALSE NEIGHBOUR: 'it returns false'. Refute it at one input. -/
def fnExactBackRoadWrong : ChangeSpec := { name := "fnExactBackRoad", fn := fun _ => fun
  | [d] => { results := [.lit (.bool false)], args := [d] }
  | _ => none }
def FnExactBackRoadWrongFalsely : Prop := fnExactBackRoadRow.holds Try.pinned (OpenSpec.ofChange fnExactBackRoadWrong)

/-- 'laws.FnExactFirstStops': WHATEVER THE INPUT: true; the input reads as it did. -/
def fnExactFirstStopsSpec : ChangeSpec := { name := "fnExactFirstStops", fn := fun _ => fun
  | [d] => { results := [.lit (.bool true)], args := [d] }
  | _ => none }
def fnExactFirstStopsRow : OpenClaim := { program := "ytngoibohkckgpaa", sum := "5100d5b457b3e04e1cdf6170cf3d8d5a69e0c5e70a6f59fec7bbb20428d7d289", func := "loop.example/g01258/laws.FnExactFirstStops", spec := "fnExactFirstStops", unfollowed := true, recurses := true, plainKeys := false, apart := false }
def FnExactFirstStopsSaid : Prop := fnExactFirstStopsRow.holds Try.pinned (OpenSpec.ofChange fnExactFirstStopsSpec)

/-- ITS FALSE NEIGHBOUR: 'it returns false'. Refute it at one input. -/
def fnExactFirstStopsWrong : ChangeSpec := { name := "fnExactFirstStops", fn := fun _ => fun
  | [d] => { results := [.lit (.bool false)], args := [d] }
  | _ => none }
def FnExactFirstStopsWrongFalsely : Prop := fnExactFirstStopsRow.holds Try.pinned (OpenSpec.ofChange fnExactFirstStopsWrong)

/-- 'laws.FnExactCountFewest': WHATEVER THE INPUT: true; the input reads as it did. -/
def fnExactCountFewestSpec : ChangeSpec := { name := "fnExactCountFewest", fn := fun _ => fun
  | [d] => { results := [.lit (.bool true)], args := [d] }
  | _ => none }
def fnExactCountFewestRow : OpenClaim := { program := "ytngoibohkckgpaa", sum := "5100d5b457b3e04e1cdf6170cf3d8d5a69e0c5e70a6f59fec7bbb20428d7d289", func := "loop.example/g01258/laws.FnExactCountFewest", spec := "fnExactCountFewest", unfollowed := true, recurses := true, plainKeys := false, apart := false }
def FnExactCountFewestSaid : Prop := fnExactCountFewestRow.holds Try.pinned (OpenSpec.ofChange fnExactCountFewestSpec)

/-- ITS FALSE NEIGHBOUR: 'it returns false'. Refute it at one input. -/
def fnExactCountFewestWrong : ChangeSpec := { name := "fnExactCountFewest", fn := fun _ => fun
  | [d] => { results := [.lit (.bool false)], args := [d] }
  | _ => none }
def FnExactCountFewestWrongFalsely : Prop := fnExactCountFewestRow.holds Try.pinned (OpenSpec.ofChange fnExactCountFewestWrong)

/-- 'laws.FnExactCountStopSets': WHATEVER THE INPUT: true; the input reads as it did. -/
def fnExactCountStopSetsSpec : ChangeSpec := { name := "fnExactCountStopSets", fn := fun _ => fun
  | [d] => { results := [.lit (.bool true)], args := [d] }
  | _ => none }
def fnExactCountStopSetsRow : OpenClaim := { program := "ytngoibohkckgpaa", sum := "5100d5b457b3e04e1cdf6170cf3d8d5a69e0c5e70a6f59fec7bbb20428d7d289", func := "loop.example/g01258/laws.FnExactCountStopSets", spec := "fnExactCountStopSets", unfollowed := true, recurses := true, plainKeys := false, apart := false }
def FnExactCountStopSetsSaid : Prop := fnExactCountStopSetsRow.holds Try.pinned (OpenSpec.ofChange fnExactCountStopSetsSpec)

/-- ITS FALSE NEIGHBOUR: 'it returns false'. Refute it at one input. -/
def fnExactCountStopSetsWrong : ChangeSpec := { name := "fnExactCountStopSets", fn := fun _ => fun
  | [d] => { results := [.lit (.bool false)], args := [d] }
  | _ => none }
def FnExactCountStopSetsWrongFalsely : Prop := fnExactCountStopSetsRow.holds Try.pinned (OpenSpec.ofChange fnExactCountStopSetsWrong)

/- THE SECOND FORM. 'bulk': how many values and letters a reading holds, each counted each time it is reached (what is shared counts as often as it is met; a slice's spare places count too). A statement '..UptoSaid' is the law's where the arguments, and the package variables that the reading takes, are together of bulk at most 1048576: NARROWER than '..Said'. Prove '..Said' where nothing that the law and all that it calls make is longer than what came in: it says more and counts as full. Else prove '..UptoSaid'. A law counts once. -/
mutual
def uptoBulk {H : Type} : DataW H → Nat
  | .lit (.string bytes) => bytes.length + 1
  | .lit _ => 1
  | .nil => 1
  | .ptr d => uptoBulk d + 1
  | .slice elems spare => uptoBulkAll elems + uptoBulkAll spare + 1
  | .agg parts => uptoBulkAll parts + 1
  | .iface _ d => uptoBulk d + 1
  | .map entries => uptoBulkEntries entries + 1
  | .held _ => 1
def uptoBulkAll {H : Type} : List (DataW H) → Nat
  | [] => 0
  | d :: r => uptoBulk d + uptoBulkAll r
def uptoBulkEntries {H : Type} : List (Lit × DataW H) → Nat
  | [] => 0
  | x :: r => uptoBulkEntry x + uptoBulkEntries r
def uptoBulkEntry {H : Type} : Lit × DataW H → Nat
  | (.string bytes, d) => bytes.length + uptoBulk d + 1
  | (_, d) => uptoBulk d + 1
 end
def uptoSmall : (H : Type) → List (DataW H) → Bool := fun _ ds => decide (uptoBulkAll ds ≤ 1048576)
def OpenSpec.upto (s : _root_.Go.ChangeSpec) : _root_.Go.OpenSpec := { _root_.Go.OpenSpec.ofChange s with cond := some uptoSmall }

/-- 'laws.FnExactGreedyStops', WHERE WHAT IT READS IS OF BULK AT MOST 1048576: true; the input reads as it did. -/
def fnExactGreedyStopsUptoRow : OpenClaim := { program := "ytngoibohkckgpaa", sum := "5100d5b457b3e04e1cdf6170cf3d8d5a69e0c5e70a6f59fec7bbb20428d7d289", func := "loop.example/g01258/laws.FnExactGreedyStops", spec := "fnExactGreedyStops", unfollowed := true, recurses := true, plainKeys := false, apart := false, narrowed := true }
def FnExactGreedyStopsUptoSaid : Prop := fnExactGreedyStopsUptoRow.holds Try.pinned (OpenSpec.upto fnExactGreedyStopsSpec)

/-- 'laws.FnExactReachWithStops', WHERE WHAT IT READS IS OF BULK AT MOST 1048576: true; the input reads as it did. -/
def fnExactReachWithStopsUptoRow : OpenClaim := { program := "ytngoibohkckgpaa", sum := "5100d5b457b3e04e1cdf6170cf3d8d5a69e0c5e70a6f59fec7bbb20428d7d289", func := "loop.example/g01258/laws.FnExactReachWithStops", spec := "fnExactReachWithStops", unfollowed := true, recurses := true, plainKeys := false, apart := false, narrowed := true }
def FnExactReachWithStopsUptoSaid : Prop := fnExactReachWithStopsUptoRow.holds Try.pinned (OpenSpec.upto fnExactReachWithStopsSpec)

/-- 'laws.FnExactBackRoad', WHERE WHAT IT READS IS OF BULK AT MOST 1048576: true; the input reads as it did. -/
def fnExactBackRoadUptoRow : OpenClaim := { program := "ytngoibohkckgpaa", sum := "5100d5b457b3e04e1cdf6170cf3d8d5a69e0c5e70a6f59fec7bbb20428d7d289", func := "loop.example/g01258/laws.FnExactBackRoad", spec := "fnExactBackRoad", unfollowed := true, recurses := true, plainKeys := false, apart := false, narrowed := true }
def FnExactBackRoadUptoSaid : Prop := fnExactBackRoadUptoRow.holds Try.pinned (OpenSpec.upto fnExactBackRoadSpec)

/-- 'laws.FnExactFirstStops', WHERE WHAT IT READS IS OF BULK AT MOST 1048576: true; the input reads as it did. -/
def fnExactFirstStopsUptoRow : OpenClaim := { program := "ytngoibohkckgpaa", sum := "5100d5b457b3e04e1cdf6170cf3d8d5a69e0c5e70a6f59fec7bbb20428d7d289", func := "loop.example/g01258/laws.FnExactFirstStops", spec := "fnExactFirstStops", unfollowed := true, recurses := true, plainKeys := false, apart := false, narrowed := true }
def FnExactFirstStopsUptoSaid : Prop := fnExactFirstStopsUptoRow.holds Try.pinned (OpenSpec.upto fnExactFirstStopsSpec)

/-- 'laws.FnExactCountFewest', WHERE WHAT IT READS IS OF BULK AT MOST 1048576: true; the input reads as it did. -/
def fnExactCountFewestUptoRow : OpenClaim := { program := "ytngoibohkckgpaa", sum := "5100d5b457b3e04e1cdf6170cf3d8d5a69e0c5e70a6f59fec7bbb20428d7d289", func := "loop.example/g01258/laws.FnExactCountFewest", spec := "fnExactCountFewest", unfollowed := true, recurses := true, plainKeys := false, apart := false, narrowed := true }
def FnExactCountFewestUptoSaid : Prop := fnExactCountFewestUptoRow.holds Try.pinned (OpenSpec.upto fnExactCountFewestSpec)

/-- 'laws.FnExactCountStopSets', WHERE WHAT IT READS IS OF BULK AT MOST 1048576: true; the input reads as it did. -/
def fnExactCountStopSetsUptoRow : OpenClaim := { program := "ytngoibohkckgpaa", sum := "5100d5b457b3e04e1cdf6170cf3d8d5a69e0c5e70a6f59fec7bbb20428d7d289", func := "loop.example/g01258/laws.FnExactCountStopSets", spec := "fnExactCountStopSets", unfollowed := true, recurses := true, plainKeys := false, apart := false, narrowed := true }
def FnExactCountStopSetsUptoSaid : Prop := fnExactCountStopSetsUptoRow.holds Try.pinned (OpenSpec.upto fnExactCountStopSetsSpec)

end Rows
end Go.Proofs.Ytngoibohkckgpaa
