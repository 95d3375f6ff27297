/-
  No cell of these rows narrows 'for every input' (looked for: loops, veiled, ifaces, maps, wideKeys, modest, calm, conditions, laid).
  DERIVED. THE GIVEN ROWS OF THIS SEAT. 8 by the template 'for every input the law returns true; each argument reads behind the call as it read before'; 0 by the template 'total and deterministic' (their statements: YtcgchgkgmfemeaaTotals.lean).
  GIVEN WITH THE SEED: the statements are not yours to turn. If you find one false, say at which input.
  Laid BY PROGRAM, IN A SANDBOX (cutbox-rows.mjs): the forced cells as the released guide's own fill.sh prints them over the translation 3d74976132582a45… (all of the seat's roots in one cut). By AI agents, Wed Nov 11 2026. No macro, syntax, notation, axiom, sorry.
-/
import Derived.Test.YtcgchgkgmfemeaaChecked
import GoSem.Claim
import GoSem.ClaimJoined
import GoSem.ClaimMapViews
import Derived.JoinedTies
import Derived.KernelRfl
namespace Go.Proofs.Ytcgchgkgmfemeaa
/- THE CELL 'sum', in the pinned program and in every row, IS THE sha256 OF THE DUMP (.gsa) THAT YtcgchgkgmfemeaaProg.lean LOADS. Nothing in Lean hashes anything: it is a label: what it is worth is what the hold of that sum in a sandbox is worth. -/
noncomputable def Try.pinned : Pinned := { name := "ytcgchgkgmfemeaa", sum := "3d74976132582a45fcf91ef339a1f973b4448de9edbaaa64d6570f1515f07acb", checked := Try.checked }
namespace Rows
def none {H : Type} : Left H := { results := [], args := [] }

/-- 'laws.FnExactFewestTakings': WHATEVER THE INPUT: true; the input reads as it did. -/
def fnExactFewestTakingsSpec : ChangeSpec := { name := "fnExactFewestTakings", fn := fun _ => fun
  | [d1, d2, d3] => { results := [.lit (.bool true)], args := [d1, d2, d3] }
  | _ => none }
def fnExactFewestTakingsRow : OpenClaim := { program := "ytcgchgkgmfemeaa", sum := "3d74976132582a45fcf91ef339a1f973b4448de9edbaaa64d6570f1515f07acb", func := "loop.example/g01258/laws.FnExactFewestTakings", spec := "fnExactFewestTakings", unfollowed := true, recurses := true, apart := false }
def FnExactFewestTakingsSaid : Prop := fnExactFewestTakingsRow.holds Try.pinned (OpenSpec.ofChange fnExactFewestTakingsSpec)

/-- ITS FALSE NEIGHBOUR: 'it returns false'. Refute it at one input. -/
def fnExactFewestTakingsWrong : ChangeSpec := { name := "fnExactFewestTakings", fn := fun _ => fun
  | [d1, d2, d3] => { results := [.lit (.bool false)], args := [d1, d2, d3] }
  | _ => none }
def FnExactFewestTakingsWrongFalsely : Prop := fnExactFewestTakingsRow.holds Try.pinned (OpenSpec.ofChange fnExactFewestTakingsWrong)

/-- 'laws.FnExactIsRing': WHATEVER THE INPUT: true; the input reads as it did. -/
def fnExactIsRingSpec : ChangeSpec := { name := "fnExactIsRing", fn := fun _ => fun
  | [d] => { results := [.lit (.bool true)], args := [d] }
  | _ => none }
def fnExactIsRingRow : OpenClaim := { program := "ytcgchgkgmfemeaa", sum := "3d74976132582a45fcf91ef339a1f973b4448de9edbaaa64d6570f1515f07acb", func := "loop.example/g01258/laws.FnExactIsRing", spec := "fnExactIsRing", unfollowed := true, recurses := true, apart := false }
def FnExactIsRingSaid : Prop := fnExactIsRingRow.holds Try.pinned (OpenSpec.ofChange fnExactIsRingSpec)

/-- ITS FALSE NEIGHBOUR: 'it returns false'. Refute it at one input. -/
def fnExactIsRingWrong : ChangeSpec := { name := "fnExactIsRing", fn := fun _ => fun
  | [d] => { results := [.lit (.bool false)], args := [d] }
  | _ => none }
def FnExactIsRingWrongFalsely : Prop := fnExactIsRingRow.holds Try.pinned (OpenSpec.ofChange fnExactIsRingWrong)

/-- 'laws.FnExactStartsOf': WHATEVER THE INPUT: true; the input reads as it did. -/
def fnExactStartsOfSpec : ChangeSpec := { name := "fnExactStartsOf", fn := fun _ => fun
  | [d] => { results := [.lit (.bool true)], args := [d] }
  | _ => none }
def fnExactStartsOfRow : OpenClaim := { program := "ytcgchgkgmfemeaa", sum := "3d74976132582a45fcf91ef339a1f973b4448de9edbaaa64d6570f1515f07acb", func := "loop.example/g01258/laws.FnExactStartsOf", spec := "fnExactStartsOf", unfollowed := true, recurses := true, apart := false }
def FnExactStartsOfSaid : Prop := fnExactStartsOfRow.holds Try.pinned (OpenSpec.ofChange fnExactStartsOfSpec)

/-- ITS FALSE NEIGHBOUR: 'it returns false'. Refute it at one input. -/
def fnExactStartsOfWrong : ChangeSpec := { name := "fnExactStartsOf", fn := fun _ => fun
  | [d] => { results := [.lit (.bool false)], args := [d] }
  | _ => none }
def FnExactStartsOfWrongFalsely : Prop := fnExactStartsOfRow.holds Try.pinned (OpenSpec.ofChange fnExactStartsOfWrong)

/-- 'laws.FnExactFirstStart': WHATEVER THE INPUT: true; the input reads as it did. -/
def fnExactFirstStartSpec : ChangeSpec := { name := "fnExactFirstStart", fn := fun _ => fun
  | [d] => { results := [.lit (.bool true)], args := [d] }
  | _ => none }
def fnExactFirstStartRow : OpenClaim := { program := "ytcgchgkgmfemeaa", sum := "3d74976132582a45fcf91ef339a1f973b4448de9edbaaa64d6570f1515f07acb", func := "loop.example/g01258/laws.FnExactFirstStart", spec := "fnExactFirstStart", unfollowed := true, recurses := true, apart := false }
def FnExactFirstStartSaid : Prop := fnExactFirstStartRow.holds Try.pinned (OpenSpec.ofChange fnExactFirstStartSpec)

/-- ITS FALSE NEIGHBOUR: 'it returns false'. Refute it at one input. -/
def fnExactFirstStartWrong : ChangeSpec := { name := "fnExactFirstStart", fn := fun _ => fun
  | [d] => { results := [.lit (.bool false)], args := [d] }
  | _ => none }
def FnExactFirstStartWrongFalsely : Prop := fnExactFirstStartRow.holds Try.pinned (OpenSpec.ofChange fnExactFirstStartWrong)

/-- 'laws.FnExactMostInTank': WHATEVER THE INPUT: true; the input reads as it did. -/
def fnExactMostInTankSpec : ChangeSpec := { name := "fnExactMostInTank", fn := fun _ => fun
  | [d1, d2] => { results := [.lit (.bool true)], args := [d1, d2] }
  | _ => none }
def fnExactMostInTankRow : OpenClaim := { program := "ytcgchgkgmfemeaa", sum := "3d74976132582a45fcf91ef339a1f973b4448de9edbaaa64d6570f1515f07acb", func := "loop.example/g01258/laws.FnExactMostInTank", spec := "fnExactMostInTank", unfollowed := true, recurses := true, apart := false }
def FnExactMostInTankSaid : Prop := fnExactMostInTankRow.holds Try.pinned (OpenSpec.ofChange fnExactMostInTankSpec)

/-- ITS FALSE NEIGHBOUR: 'it returns false'. Refute it at one input. -/
def fnExactMostInTankWrong : ChangeSpec := { name := "fnExactMostInTank", fn := fun _ => fun
  | [d1, d2] => { results := [.lit (.bool false)], args := [d1, d2] }
  | _ => none }
def FnExactMostInTankWrongFalsely : Prop := fnExactMostInTankRow.holds Try.pinned (OpenSpec.ofChange fnExactMostInTankWrong)

/-- 'laws.FnExactExtraFor': WHATEVER THE INPUT: true; the input reads as it did. -/
def fnExactExtraForSpec : ChangeSpec := { name := "fnExactExtraFor", fn := fun _ => fun
  | [d1, d2] => { results := [.lit (.bool true)], args := [d1, d2] }
  | _ => none }
def fnExactExtraForRow : OpenClaim := { program := "ytcgchgkgmfemeaa", sum := "3d74976132582a45fcf91ef339a1f973b4448de9edbaaa64d6570f1515f07acb", func := "loop.example/g01258/laws.FnExactExtraFor", spec := "fnExactExtraFor", unfollowed := true, recurses := true, apart := false }
def FnExactExtraForSaid : Prop := fnExactExtraForRow.holds Try.pinned (OpenSpec.ofChange fnExactExtraForSpec)

/-- ITS FALSE NEIGHBOUR: 'it returns false'. Refute it at one input. -/
def fnExactExtraForWrong : ChangeSpec := { name := "fnExactExtraFor", fn := fun _ => fun
  | [d1, d2] => { results := [.lit (.bool false)], args := [d1, d2] }
  | _ => none }
def FnExactExtraForWrongFalsely : Prop := fnExactExtraForRow.holds Try.pinned (OpenSpec.ofChange fnExactExtraForWrong)

/-- 'laws.FnExactTurnRing': WHATEVER THE INPUT: true; the input reads as it did. -/
def fnExactTurnRingSpec : ChangeSpec := { name := "fnExactTurnRing", fn := fun _ => fun
  | [d1, d2] => { results := [.lit (.bool true)], args := [d1, d2] }
  | _ => none }
def fnExactTurnRingRow : OpenClaim := { program := "ytcgchgkgmfemeaa", sum := "3d74976132582a45fcf91ef339a1f973b4448de9edbaaa64d6570f1515f07acb", func := "loop.example/g01258/laws.FnExactTurnRing", spec := "fnExactTurnRing", unfollowed := true, recurses := true, apart := false }
def FnExactTurnRingSaid : Prop := fnExactTurnRingRow.holds Try.pinned (OpenSpec.ofChange fnExactTurnRingSpec)

/-- ITS FALSE NEIGHBOUR: 'it returns false'. Refute it at one input. -/
def fnExactTurnRingWrong : ChangeSpec := { name := "fnExactTurnRing", fn := fun _ => fun
  | [d1, d2] => { results := [.lit (.bool false)], args := [d1, d2] }
  | _ => none }
def FnExactTurnRingWrongFalsely : Prop := fnExactTurnRingRow.holds Try.pinned (OpenSpec.ofChange fnExactTurnRingWrong)

/-- 'laws.FnExactBackRing': WHATEVER THE INPUT: true; the input reads as it did. -/
def fnExactBackRingSpec : ChangeSpec := { name := "fnExactBackRing", fn := fun _ => fun
  | [d] => { results := [.lit (.bool true)], args := [d] }
  | _ => none }
def fnExactBackRingRow : OpenClaim := { program := "ytcgchgkgmfemeaa", sum := "3d74976132582a45fcf91ef339a1f973b4448de9edbaaa64d6570f1515f07acb", func := "loop.example/g01258/laws.FnExactBackRing", spec := "fnExactBackRing", unfollowed := true, recurses := true, apart := false }
def FnExactBackRingSaid : Prop := fnExactBackRingRow.holds Try.pinned (OpenSpec.ofChange fnExactBackRingSpec)

/-- ITS FALSE NEIGHBOUR: 'it returns false'. Refute it at one input. -/
def fnExactBackRingWrong : ChangeSpec := { name := "fnExactBackRing", fn := fun _ => fun
  | [d] => { results := [.lit (.bool false)], args := [d] }
  | _ => none }
def FnExactBackRingWrongFalsely : Prop := fnExactBackRingRow.holds Try.pinned (OpenSpec.ofChange fnExactBackRingWrong)

/- THE SECOND FORM. 'bulk': how many values and letters a reading holds, each counted each time it is reached (what is shared counts as often as it is met; a slice's spare places count too). A statement '..UptoSaid' is the law's where the arguments, and the package variables that the reading takes, are together of bulk at most 1048576: NARROWER than '..Said'. Prove '..Said' where nothing that the law and all that it calls make is longer than what came in: it says more and counts as full. Else prove '..UptoSaid'. A law counts once. -/
mutual
def uptoBulk {H : Type} : DataW H → Nat
  | .lit (.string bytes) => bytes.length + 1
  | .lit _ => 1
  | .nil => 1
  | .ptr d => uptoBulk d + 1
  | .slice elems spare => uptoBulkAll elems + uptoBulkAll spare + 1
  | .agg parts => uptoBulkAll parts + 1
  | .iface _ d => uptoBulk d + 1
  | .map entries => uptoBulkEntries entries + 1
  | .held _ => 1
def uptoBulkAll {H : Type} : List (DataW H) → Nat
  | [] => 0
  | d :: r => uptoBulk d + uptoBulkAll r
def uptoBulkEntries {H : Type} : List (Lit × DataW H) → Nat
  | [] => 0
  | x :: r => uptoBulkEntry x + uptoBulkEntries r
def uptoBulkEntry {H : Type} : Lit × DataW H → Nat
  | (.string bytes, d) => bytes.length + uptoBulk d + 1
  | (_, d) => uptoBulk d + 1
 end
def uptoSmall : (H : Type) → List (DataW H) → Bool := fun _ ds => decide (uptoBulkAll ds ≤ 1048576)
def OpenSpec.upto (s : _root_.Go.ChangeSpec) : _root_.Go.OpenSpec := { _root_.Go.OpenSpec.ofChange s with cond := some uptoSmall }

/-- 'laws.FnExactFewestTakings', WHERE WHAT IT READS IS OF BULK AT MOST 1048576: true; the input reads as it did. -/
def fnExactFewestTakingsUptoRow : OpenClaim := { program := "ytcgchgkgmfemeaa", sum := "3d74976132582a45fcf91ef339a1f973b4448de9edbaaa64d6570f1515f07acb", func := "loop.example/g01258/laws.FnExactFewestTakings", spec := "fnExactFewestTakings", unfollowed := true, recurses := true, apart := false, narrowed := true }
def FnExactFewestTakingsUptoSaid : Prop := fnExactFewestTakingsUptoRow.holds Try.pinned (OpenSpec.upto fnExactFewestTakingsSpec)

/-- 'laws.FnExactIsRing', WHERE WHAT IT READS IS OF BULK AT MOST 1048576: true; the input reads as it did. -/
def fnExactIsRingUptoRow : OpenClaim := { program := "ytcgchgkgmfemeaa", sum := "3d74976132582a45fcf91ef339a1f973b4448de9edbaaa64d6570f1515f07acb", func := "loop.example/g01258/laws.FnExactIsRing", spec := "fnExactIsRing", unfollowed := true, recurses := true, apart := false, narrowed := true }
def FnExactIsRingUptoSaid : Prop := fnExactIsRingUptoRow.holds Try.pinned (OpenSpec.upto fnExactIsRingSpec)

/-- 'laws.FnExactStartsOf', WHERE WHAT IT READS IS OF BULK AT MOST 1048576: true; the input reads as it did. -/
def fnExactStartsOfUptoRow : OpenClaim := { program := "ytcgchgkgmfemeaa", sum := "3d74976132582a45fcf91ef339a1f973b4448de9edbaaa64d6570f1515f07acb", func := "loop.example/g01258/laws.FnExactStartsOf", spec := "fnExactStartsOf", unfollowed := true, recurses := true, apart := false, narrowed := true }
def FnExactStartsOfUptoSaid : Prop := fnExactStartsOfUptoRow.holds Try.pinned (OpenSpec.upto fnExactStartsOfSpec)

/-- 'laws.FnExactFirstStart', WHERE WHAT IT READS IS OF BULK AT MOST 1048576: true; the input reads as it did. -/
def fnExactFirstStartUptoRow : OpenClaim := { program := "ytcgchgkgmfemeaa", sum := "3d74976132582a45fcf91ef339a1f973b4448de9edbaaa64d6570f1515f07acb", func := "loop.example/g01258/laws.FnExactFirstStart", spec := "fnExactFirstStart", unfollowed := true, recurses := true, apart := false, narrowed := true }
def FnExactFirstStartUptoSaid : Prop := fnExactFirstStartUptoRow.holds Try.pinned (OpenSpec.upto fnExactFirstStartSpec)

/-- 'laws.FnExactMostInTank', WHERE WHAT IT READS IS OF BULK AT MOST 1048576: true; the input reads as it did. -/
def fnExactMostInTankUptoRow : OpenClaim := { program := "ytcgchgkgmfemeaa", sum := "3d74976132582a45fcf91ef339a1f973b4448de9edbaaa64d6570f1515f07acb", func := "loop.example/g01258/laws.FnExactMostInTank", spec := "fnExactMostInTank", unfollowed := true, recurses := true, apart := false, narrowed := true }
def FnExactMostInTankUptoSaid : Prop := fnExactMostInTankUptoRow.holds Try.pinned (OpenSpec.upto fnExactMostInTankSpec)

/-- 'laws.FnExactExtraFor', WHERE WHAT IT READS IS OF BULK AT MOST 1048576: true; the input reads as it did. -/
def fnExactExtraForUptoRow : OpenClaim := { program := "ytcgchgkgmfemeaa", sum := "3d74976132582a45fcf91ef339a1f973b4448de9edbaaa64d6570f1515f07acb", func := "loop.example/g01258/laws.FnExactExtraFor", spec := "fnExactExtraFor", unfollowed := true, recurses := true, apart := false, narrowed := true }
def FnExactExtraForUptoSaid : Prop := fnExactExtraForUptoRow.holds Try.pinned (OpenSpec.upto fnExactExtraForSpec)

/-- 'laws.FnExactTurnRing', WHERE WHAT IT READS IS OF BULK AT MOST 1048576: true; the input reads as it did. -/
def fnExactTurnRingUptoRow : OpenClaim := { program := "ytcgchgkgmfemeaa", sum := "3d74976132582a45fcf91ef339a1f973b4448de9edbaaa64d6570f1515f07acb", func := "loop.example/g01258/laws.FnExactTurnRing", spec := "fnExactTurnRing", unfollowed := true, recurses := true, apart := false, narrowed := true }
def FnExactTurnRingUptoSaid : Prop := fnExactTurnRingUptoRow.holds Try.pinned (OpenSpec.upto fnExactTurnRingSpec)

/-- 'laws.FnExactBackRing', WHERE WHAT IT READS IS OF BULK AT MOST 1048576: true; the input reads as it did. -/
def fnExactBackRingUptoRow : OpenClaim := { program := "ytcgchgkgmfemeaa", sum := "3d74976132582a45fcf91ef339a1f973b4448de9edbaaa64d6570f1515f07acb", func := "loop.example/g01258/laws.FnExactBackRing", spec := "fnExactBackRing", unfollowed := true, recurses := true, apart := false, narrowed := true }
def FnExactBackRingUptoSaid : Prop := fnExactBackRingUptoRow.holds Try.pinned (OpenSpec.upto fnExactBackRingSpec)

end Rows
end Go.Proofs.Ytcgchgkgmfemeaa
