/-
  No cell of these rows narrows 'for every input' (looked for: loops, veiled, ifaces, maps, wideKeys, modest, calm, conditions, laid).
  DERIVED. THE GIVEN ROWS OF THIS SEAT. 13 by the template 'for every input the law returns true; each argument reads behind the call as it read before'; 0 by the template 'total and deterministic' (their statements: YtkpeiibncbcdhaaTotals.lean).
  GIVEN WITH THE SEED: the statements are not yours to turn. If you find one false, say at which input.
  Laid BY PROGRAM, IN A SANDBOX (cutbox-rows.mjs): the forced cells as the released guide's own fill.sh prints them over the translation 27bdd2176f8f28da… (all of the seat's roots in one cut). By AI agents, Wed Nov 11 2026. No macro, syntax, notation, axiom, sorry.
-/
import Derived.Test.YtkpeiibncbcdhaaChecked
import GoSem.Claim
import GoSem.ClaimJoined
import GoSem.ClaimMapViews
import Derived.JoinedTies
import Derived.KernelRfl
namespace Go.Proofs.Ytkpeiibncbcdhaa
/- THE CELL 'sum', in the pinned program and in every row, IS THE sha256 OF THE DUMP (.gsa) THAT YtkpeiibncbcdhaaProg.lean LOADS. Nothing in Lean hashes anything: it is a label: what it is worth is what the hold of that sum in a sandbox is worth. -/
noncomputable def Try.pinned : Pinned := { name := "ytkpeiibncbcdhaa", sum := "27bdd2176f8f28da14c0fbb6a5c3eb929d8e796ad18c08e78b5d11238982fac8", checked := Try.checked }
namespace Rows
def none {H : Type} : Left H := { results := [], args := [] }

/-- 'laws.FnExactIsStep': WHATEVER THE INPUT: true; the input reads as it did. -/
def fnExactIsStepSpec : ChangeSpec := { name := "fnExactIsStep", fn := fun _ => fun
  | [d] => { results := [.lit (.bool true)], args := [d] }
  | _ => none }
def fnExactIsStepRow : OpenClaim := { program := "ytkpeiibncbcdhaa", sum := "27bdd2176f8f28da14c0fbb6a5c3eb929d8e796ad18c08e78b5d11238982fac8", func := "loop.example/g01258/laws.FnExactIsStep", spec := "fnExactIsStep", apart := false }
def FnExactIsStepSaid : Prop := fnExactIsStepRow.holds Try.pinned (OpenSpec.ofChange fnExactIsStepSpec)

/-- ITS FALSE NEIGHBOUR: 'it returns false'. Refute it at one input. -/
def fnExactIsStepWrong : ChangeSpec := { name := "fnExactIsStep", fn := fun _ => fun
  | [d] => { results := [.lit (.bool false)], args := [d] }
  | _ => none }
def FnExactIsStepWrongFalsely : Prop := fnExactIsStepRow.holds Try.pinned (OpenSpec.ofChange fnExactIsStepWrong)

/-- 'laws.FnExactIsState': WHATEVER THE INPUT: true; the input reads as it did. -/
def fnExactIsStateSpec : ChangeSpec := { name := "fnExactIsState", fn := fun _ => fun
  | [d] => { results := [.lit (.bool true)], args := [d] }
  | _ => none }
def fnExactIsStateRow : OpenClaim := { program := "ytkpeiibncbcdhaa", sum := "27bdd2176f8f28da14c0fbb6a5c3eb929d8e796ad18c08e78b5d11238982fac8", func := "loop.example/g01258/laws.FnExactIsState", spec := "fnExactIsState", apart := false }
def FnExactIsStateSaid : Prop := fnExactIsStateRow.holds Try.pinned (OpenSpec.ofChange fnExactIsStateSpec)

/-- ITS FALSE NEIGHBOUR: 'it returns false'. Refute it at one input. -/
def fnExactIsStateWrong : ChangeSpec := { name := "fnExactIsState", fn := fun _ => fun
  | [d] => { results := [.lit (.bool false)], args := [d] }
  | _ => none }
def FnExactIsStateWrongFalsely : Prop := fnExactIsStateRow.holds Try.pinned (OpenSpec.ofChange fnExactIsStateWrong)

/-- 'laws.FnExactFirstState': WHATEVER THE INPUT: true; the input reads as it did. -/
def fnExactFirstStateSpec : ChangeSpec := { name := "fnExactFirstState", fn := fun _ => fun
  | [d] => { results := [.lit (.bool true)], args := [d] }
  | _ => none }
def fnExactFirstStateRow : OpenClaim := { program := "ytkpeiibncbcdhaa", sum := "27bdd2176f8f28da14c0fbb6a5c3eb929d8e796ad18c08e78b5d11238982fac8", func := "loop.example/g01258/laws.FnExactFirstState", spec := "fnExactFirstState", apart := false }
def FnExactFirstStateSaid : Prop := fnExactFirstStateRow.holds Try.pinned (OpenSpec.ofChange fnExactFirstStateSpec)

/-- ITS FALSE NEIGHBOUR: 'it returns false'. Refute it at one input. -/
def fnExactFirstStateWrong : ChangeSpec := { name := "fnExactFirstState", fn := fun _ => fun
  | [d] => { results := [.lit (.bool false)], args := [d] }
  | _ => none }
def FnExactFirstStateWrongFalsely : Prop := fnExactFirstStateRow.holds Try.pinned (OpenSpec.ofChange fnExactFirstStateWrong)

/-- 'laws.FnExactPlayStep': WHATEVER THE INPUT: true; the input reads as it did. -/
def fnExactPlayStepSpec : ChangeSpec := { name := "fnExactPlayStep", fn := fun _ => fun
  | [d1, d2] => { results := [.lit (.bool true)], args := [d1, d2] }
  | _ => none }
def fnExactPlayStepRow : OpenClaim := { program := "ytkpeiibncbcdhaa", sum := "27bdd2176f8f28da14c0fbb6a5c3eb929d8e796ad18c08e78b5d11238982fac8", func := "loop.example/g01258/laws.FnExactPlayStep", spec := "fnExactPlayStep", unfollowed := true, recurses := true, apart := false }
def FnExactPlayStepSaid : Prop := fnExactPlayStepRow.holds Try.pinned (OpenSpec.ofChange fnExactPlayStepSpec)

/-- ITS FALSE NEIGHBOUR: 'it returns false'. Refute it at one input. -/
def fnExactPlayStepWrong : ChangeSpec := { name := "fnExactPlayStep", fn := fun _ => fun
  | [d1, d2] => { results := [.lit (.bool false)], args := [d1, d2] }
  | _ => none }
def FnExactPlayStepWrongFalsely : Prop := fnExactPlayStepRow.holds Try.pinned (OpenSpec.ofChange fnExactPlayStepWrong)

/-- 'laws.FnExactPlaySteps': WHATEVER THE INPUT: true; the input reads as it did. -/
def fnExactPlayStepsSpec : ChangeSpec := { name := "fnExactPlaySteps", fn := fun _ => fun
  | [d1, d2] => { results := [.lit (.bool true)], args := [d1, d2] }
  | _ => none }
def fnExactPlayStepsRow : OpenClaim := { program := "ytkpeiibncbcdhaa", sum := "27bdd2176f8f28da14c0fbb6a5c3eb929d8e796ad18c08e78b5d11238982fac8", func := "loop.example/g01258/laws.FnExactPlaySteps", spec := "fnExactPlaySteps", unfollowed := true, recurses := true, apart := false }
def FnExactPlayStepsSaid : Prop := fnExactPlayStepsRow.holds Try.pinned (OpenSpec.ofChange fnExactPlayStepsSpec)

/-- ITS FALSE NEIGHBOUR: 'it returns false'. Refute it at one input. -/
def fnExactPlayStepsWrong : ChangeSpec := { name := "fnExactPlaySteps", fn := fun _ => fun
  | [d1, d2] => { results := [.lit (.bool false)], args := [d1, d2] }
  | _ => none }
def FnExactPlayStepsWrongFalsely : Prop := fnExactPlayStepsRow.holds Try.pinned (OpenSpec.ofChange fnExactPlayStepsWrong)

/-- 'laws.FnExactStepThatFails': WHATEVER THE INPUT: true; the input reads as it did. -/
def fnExactStepThatFailsSpec : ChangeSpec := { name := "fnExactStepThatFails", fn := fun _ => fun
  | [d1, d2] => { results := [.lit (.bool true)], args := [d1, d2] }
  | _ => none }
def fnExactStepThatFailsRow : OpenClaim := { program := "ytkpeiibncbcdhaa", sum := "27bdd2176f8f28da14c0fbb6a5c3eb929d8e796ad18c08e78b5d11238982fac8", func := "loop.example/g01258/laws.FnExactStepThatFails", spec := "fnExactStepThatFails", unfollowed := true, recurses := true, apart := false }
def FnExactStepThatFailsSaid : Prop := fnExactStepThatFailsRow.holds Try.pinned (OpenSpec.ofChange fnExactStepThatFailsSpec)

/-- ITS FALSE NEIGHBOUR: 'it returns false'. Refute it at one input. -/
def fnExactStepThatFailsWrong : ChangeSpec := { name := "fnExactStepThatFails", fn := fun _ => fun
  | [d1, d2] => { results := [.lit (.bool false)], args := [d1, d2] }
  | _ => none }
def FnExactStepThatFailsWrongFalsely : Prop := fnExactStepThatFailsRow.holds Try.pinned (OpenSpec.ofChange fnExactStepThatFailsWrong)

/-- 'laws.FnExactFuelHere': WHATEVER THE INPUT: true; the input reads as it did. -/
def fnExactFuelHereSpec : ChangeSpec := { name := "fnExactFuelHere", fn := fun _ => fun
  | [d] => { results := [.lit (.bool true)], args := [d] }
  | _ => none }
def fnExactFuelHereRow : OpenClaim := { program := "ytkpeiibncbcdhaa", sum := "27bdd2176f8f28da14c0fbb6a5c3eb929d8e796ad18c08e78b5d11238982fac8", func := "loop.example/g01258/laws.FnExactFuelHere", spec := "fnExactFuelHere", apart := false }
def FnExactFuelHereSaid : Prop := fnExactFuelHereRow.holds Try.pinned (OpenSpec.ofChange fnExactFuelHereSpec)

/-- ITS FALSE NEIGHBOUR: 'it returns false'. Refute it at one input. -/
def fnExactFuelHereWrong : ChangeSpec := { name := "fnExactFuelHere", fn := fun _ => fun
  | [d] => { results := [.lit (.bool false)], args := [d] }
  | _ => none }
def FnExactFuelHereWrongFalsely : Prop := fnExactFuelHereRow.holds Try.pinned (OpenSpec.ofChange fnExactFuelHereWrong)

/-- 'laws.FnExactFuelInAll': WHATEVER THE INPUT: true; the input reads as it did. -/
def fnExactFuelInAllSpec : ChangeSpec := { name := "fnExactFuelInAll", fn := fun _ => fun
  | [d] => { results := [.lit (.bool true)], args := [d] }
  | _ => none }
def fnExactFuelInAllRow : OpenClaim := { program := "ytkpeiibncbcdhaa", sum := "27bdd2176f8f28da14c0fbb6a5c3eb929d8e796ad18c08e78b5d11238982fac8", func := "loop.example/g01258/laws.FnExactFuelInAll", spec := "fnExactFuelInAll", unfollowed := true, recurses := true, apart := false }
def FnExactFuelInAllSaid : Prop := fnExactFuelInAllRow.holds Try.pinned (OpenSpec.ofChange fnExactFuelInAllSpec)

/-- ITS FALSE NEIGHBOUR: 'it returns false'. Refute it at one input. -/
def fnExactFuelInAllWrong : ChangeSpec := { name := "fnExactFuelInAll", fn := fun _ => fun
  | [d] => { results := [.lit (.bool false)], args := [d] }
  | _ => none }
def FnExactFuelInAllWrongFalsely : Prop := fnExactFuelInAllRow.holds Try.pinned (OpenSpec.ofChange fnExactFuelInAllWrong)

/-- 'laws.FnExactDrivenBy': WHATEVER THE INPUT: true; the input reads as it did. -/
def fnExactDrivenBySpec : ChangeSpec := { name := "fnExactDrivenBy", fn := fun _ => fun
  | [d] => { results := [.lit (.bool true)], args := [d] }
  | _ => none }
def fnExactDrivenByRow : OpenClaim := { program := "ytkpeiibncbcdhaa", sum := "27bdd2176f8f28da14c0fbb6a5c3eb929d8e796ad18c08e78b5d11238982fac8", func := "loop.example/g01258/laws.FnExactDrivenBy", spec := "fnExactDrivenBy", unfollowed := true, recurses := true, apart := false }
def FnExactDrivenBySaid : Prop := fnExactDrivenByRow.holds Try.pinned (OpenSpec.ofChange fnExactDrivenBySpec)

/-- ITS FALSE NEIGHBOUR: 'it returns false'. Refute it at one input. -/
def fnExactDrivenByWrong : ChangeSpec := { name := "fnExactDrivenBy", fn := fun _ => fun
  | [d] => { results := [.lit (.bool false)], args := [d] }
  | _ => none }
def FnExactDrivenByWrongFalsely : Prop := fnExactDrivenByRow.holds Try.pinned (OpenSpec.ofChange fnExactDrivenByWrong)

/-- 'laws.FnExactFarthestOf': WHATEVER THE INPUT: true; the input reads as it did. -/
def fnExactFarthestOfSpec : ChangeSpec := { name := "fnExactFarthestOf", fn := fun _ => fun
  | [d1, d2] => { results := [.lit (.bool true)], args := [d1, d2] }
  | _ => none }
def fnExactFarthestOfRow : OpenClaim := { program := "ytkpeiibncbcdhaa", sum := "27bdd2176f8f28da14c0fbb6a5c3eb929d8e796ad18c08e78b5d11238982fac8", func := "loop.example/g01258/laws.FnExactFarthestOf", spec := "fnExactFarthestOf", unfollowed := true, recurses := true, apart := false }
def FnExactFarthestOfSaid : Prop := fnExactFarthestOfRow.holds Try.pinned (OpenSpec.ofChange fnExactFarthestOfSpec)

/-- ITS FALSE NEIGHBOUR: 'it returns false'. Refute it at one input. -/
def fnExactFarthestOfWrong : ChangeSpec := { name := "fnExactFarthestOf", fn := fun _ => fun
  | [d1, d2] => { results := [.lit (.bool false)], args := [d1, d2] }
  | _ => none }
def FnExactFarthestOfWrongFalsely : Prop := fnExactFarthestOfRow.holds Try.pinned (OpenSpec.ofChange fnExactFarthestOfWrong)

/-- 'laws.FnExactTakenAtStart': WHATEVER THE INPUT: true; the input reads as it did. -/
def fnExactTakenAtStartSpec : ChangeSpec := { name := "fnExactTakenAtStart", fn := fun _ => fun
  | [d1, d2] => { results := [.lit (.bool true)], args := [d1, d2] }
  | _ => none }
def fnExactTakenAtStartRow : OpenClaim := { program := "ytkpeiibncbcdhaa", sum := "27bdd2176f8f28da14c0fbb6a5c3eb929d8e796ad18c08e78b5d11238982fac8", func := "loop.example/g01258/laws.FnExactTakenAtStart", spec := "fnExactTakenAtStart", unfollowed := true, recurses := true, apart := false }
def FnExactTakenAtStartSaid : Prop := fnExactTakenAtStartRow.holds Try.pinned (OpenSpec.ofChange fnExactTakenAtStartSpec)

/-- ITS FALSE NEIGHBOUR: 'it returns false'. Refute it at one input. -/
def fnExactTakenAtStartWrong : ChangeSpec := { name := "fnExactTakenAtStart", fn := fun _ => fun
  | [d1, d2] => { results := [.lit (.bool false)], args := [d1, d2] }
  | _ => none }
def FnExactTakenAtStartWrongFalsely : Prop := fnExactTakenAtStartRow.holds Try.pinned (OpenSpec.ofChange fnExactTakenAtStartWrong)

/-- 'laws.FnExactPlanOut': WHATEVER THE INPUT: true; the input reads as it did. -/
def fnExactPlanOutSpec : ChangeSpec := { name := "fnExactPlanOut", fn := fun _ => fun
  | [d] => { results := [.lit (.bool true)], args := [d] }
  | _ => none }
def fnExactPlanOutRow : OpenClaim := { program := "ytkpeiibncbcdhaa", sum := "27bdd2176f8f28da14c0fbb6a5c3eb929d8e796ad18c08e78b5d11238982fac8", func := "loop.example/g01258/laws.FnExactPlanOut", spec := "fnExactPlanOut", unfollowed := true, recurses := true, apart := false }
def FnExactPlanOutSaid : Prop := fnExactPlanOutRow.holds Try.pinned (OpenSpec.ofChange fnExactPlanOutSpec)

/-- ITS FALSE NEIGHBOUR: 'it returns false'. Refute it at one input. -/
def fnExactPlanOutWrong : ChangeSpec := { name := "fnExactPlanOut", fn := fun _ => fun
  | [d] => { results := [.lit (.bool false)], args := [d] }
  | _ => none }
def FnExactPlanOutWrongFalsely : Prop := fnExactPlanOutRow.holds Try.pinned (OpenSpec.ofChange fnExactPlanOutWrong)

/-- 'laws.FnExactPlanBack': WHATEVER THE INPUT: true; the input reads as it did. -/
def fnExactPlanBackSpec : ChangeSpec := { name := "fnExactPlanBack", fn := fun _ => fun
  | [d] => { results := [.lit (.bool true)], args := [d] }
  | _ => none }
def fnExactPlanBackRow : OpenClaim := { program := "ytkpeiibncbcdhaa", sum := "27bdd2176f8f28da14c0fbb6a5c3eb929d8e796ad18c08e78b5d11238982fac8", func := "loop.example/g01258/laws.FnExactPlanBack", spec := "fnExactPlanBack", unfollowed := true, recurses := true, apart := false }
def FnExactPlanBackSaid : Prop := fnExactPlanBackRow.holds Try.pinned (OpenSpec.ofChange fnExactPlanBackSpec)

/-- ITS FALSE NEIGHBOUR: 'it returns false'. Refute it at one input. -/
def fnExactPlanBackWrong : ChangeSpec := { name := "fnExactPlanBack", fn := fun _ => fun
  | [d] => { results := [.lit (.bool false)], args := [d] }
  | _ => none }
def FnExactPlanBackWrongFalsely : Prop := fnExactPlanBackRow.holds Try.pinned (OpenSpec.ofChange fnExactPlanBackWrong)

/- THE SECOND FORM. 'bulk': how many values and letters a reading holds, each counted each time it is reached (what is shared counts as often as it is met; a slice's spare places count too). A statement '..UptoSaid' is the law's where the arguments, and the package variables that the reading takes, are together of bulk at most 1048576: NARROWER than '..Said'. Prove '..Said' where nothing that the law and all that it calls make is longer than what came in: it says more and counts as full. Else prove '..UptoSaid'. A law counts once. -/
mutual
def uptoBulk {H : Type} : DataW H → Nat
  | .lit (.string bytes) => bytes.length + 1
  | .lit _ => 1
  | .nil => 1
  | .ptr d => uptoBulk d + 1
  | .slice elems spare => uptoBulkAll elems + uptoBulkAll spare + 1
  | .agg parts => uptoBulkAll parts + 1
  | .iface _ d => uptoBulk d + 1
  | .map entries => uptoBulkEntries entries + 1
  | .held _ => 1
def uptoBulkAll {H : Type} : List (DataW H) → Nat
  | [] => 0
  | d :: r => uptoBulk d + uptoBulkAll r
def uptoBulkEntries {H : Type} : List (Lit × DataW H) → Nat
  | [] => 0
  | x :: r => uptoBulkEntry x + uptoBulkEntries r
def uptoBulkEntry {H : Type} : Lit × DataW H → Nat
  | (.string bytes, d) => bytes.length + uptoBulk d + 1
  | (_, d) => uptoBulk d + 1
 end
def uptoSmall : (H : Type) → List (DataW H) → Bool := fun _ ds => decide (uptoBulkAll ds ≤ 1048576)
def OpenSpec.upto (s : _root_.Go.ChangeSpec) : _root_.Go.OpenSpec := { _root_.Go.OpenSpec.ofChange s with cond := some uptoSmall }

/-- 'laws.FnExactIsStep', WHERE WHAT IT READS IS OF BULK AT MOST 1048576: true; the input reads as it did. -/
def fnExactIsStepUptoRow : OpenClaim := { program := "ytkpeiibncbcdhaa", sum := "27bdd2176f8f28da14c0fbb6a5c3eb929d8e796ad18c08e78b5d11238982fac8", func := "loop.example/g01258/laws.FnExactIsStep", spec := "fnExactIsStep", apart := false, narrowed := true }
def FnExactIsStepUptoSaid : Prop := fnExactIsStepUptoRow.holds Try.pinned (OpenSpec.upto fnExactIsStepSpec)

/-- 'laws.FnExactIsState', WHERE WHAT IT READS IS OF BULK AT MOST 1048576: true; the input reads as it did. -/
def fnExactIsStateUptoRow : OpenClaim := { program := "ytkpeiibncbcdhaa", sum := "27bdd2176f8f28da14c0fbb6a5c3eb929d8e796ad18c08e78b5d11238982fac8", func := "loop.example/g01258/laws.FnExactIsState", spec := "fnExactIsState", apart := false, narrowed := true }
def FnExactIsStateUptoSaid : Prop := fnExactIsStateUptoRow.holds Try.pinned (OpenSpec.upto fnExactIsStateSpec)

/-- 'laws.FnExactFirstState', WHERE WHAT IT READS IS OF BULK AT MOST 1048576: true; the input reads as it did. -/
def fnExactFirstStateUptoRow : OpenClaim := { program := "ytkpeiibncbcdhaa", sum := "27bdd2176f8f28da14c0fbb6a5c3eb929d8e796ad18c08e78b5d11238982fac8", func := "loop.example/g01258/laws.FnExactFirstState", spec := "fnExactFirstState", apart := false, narrowed := true }
def FnExactFirstStateUptoSaid : Prop := fnExactFirstStateUptoRow.holds Try.pinned (OpenSpec.upto fnExactFirstStateSpec)

/-- 'laws.FnExactPlayStep', WHERE WHAT IT READS IS OF BULK AT MOST 1048576: true; the input reads as it did. -/
def fnExactPlayStepUptoRow : OpenClaim := { program := "ytkpeiibncbcdhaa", sum := "27bdd2176f8f28da14c0fbb6a5c3eb929d8e796ad18c08e78b5d11238982fac8", func := "loop.example/g01258/laws.FnExactPlayStep", spec := "fnExactPlayStep", unfollowed := true, recurses := true, apart := false, narrowed := true }
def FnExactPlayStepUptoSaid : Prop := fnExactPlayStepUptoRow.holds Try.pinned (OpenSpec.upto fnExactPlayStepSpec)

/-- 'laws.FnExactPlaySteps', WHERE WHAT IT READS IS OF BULK AT MOST 1048576: true; the input reads as it did. -/
def fnExactPlayStepsUptoRow : OpenClaim := { program := "ytkpeiibncbcdhaa", sum := "27bdd2176f8f28da14c0fbb6a5c3eb929d8e796ad18c08e78b5d11238982fac8", func := "loop.example/g01258/laws.FnExactPlaySteps", spec := "fnExactPlaySteps", unfollowed := true, recurses := true, apart := false, narrowed := true }
def FnExactPlayStepsUptoSaid : Prop := fnExactPlayStepsUptoRow.holds Try.pinned (OpenSpec.upto fnExactPlayStepsSpec)

/-- 'laws.FnExactStepThatFails', WHERE WHAT IT READS IS OF BULK AT MOST 1048576: true; the input reads as it did. -/
def fnExactStepThatFailsUptoRow : OpenClaim := { program := "ytkpeiibncbcdhaa", sum := "27bdd2176f8f28da14c0fbb6a5c3eb929d8e796ad18c08e78b5d11238982fac8", func := "loop.example/g01258/laws.FnExactStepThatFails", spec := "fnExactStepThatFails", unfollowed := true, recurses := true, apart := false, narrowed := true }
def FnExactStepThatFailsUptoSaid : Prop := fnExactStepThatFailsUptoRow.holds Try.pinned (OpenSpec.upto fnExactStepThatFailsSpec)

/-- 'laws.FnExactFuelHere', WHERE WHAT IT READS IS OF BULK AT MOST 1048576: true; the input reads as it did. -/
def fnExactFuelHereUptoRow : OpenClaim := { program := "ytkpeiibncbcdhaa", sum := "27bdd2176f8f28da14c0fbb6a5c3eb929d8e796ad18c08e78b5d11238982fac8", func := "loop.example/g01258/laws.FnExactFuelHere", spec := "fnExactFuelHere", apart := false, narrowed := true }
def FnExactFuelHereUptoSaid : Prop := fnExactFuelHereUptoRow.holds Try.pinned (OpenSpec.upto fnExactFuelHereSpec)

/-- 'laws.FnExactFuelInAll', WHERE WHAT IT READS IS OF BULK AT MOST 1048576: true; the input reads as it did. -/
def fnExactFuelInAllUptoRow : OpenClaim := { program := "ytkpeiibncbcdhaa", sum := "27bdd2176f8f28da14c0fbb6a5c3eb929d8e796ad18c08e78b5d11238982fac8", func := "loop.example/g01258/laws.FnExactFuelInAll", spec := "fnExactFuelInAll", unfollowed := true, recurses := true, apart := false, narrowed := true }
def FnExactFuelInAllUptoSaid : Prop := fnExactFuelInAllUptoRow.holds Try.pinned (OpenSpec.upto fnExactFuelInAllSpec)

/-- 'laws.FnExactDrivenBy', WHERE WHAT IT READS IS OF BULK AT MOST 1048576: true; the input reads as it did. -/
def fnExactDrivenByUptoRow : OpenClaim := { program := "ytkpeiibncbcdhaa", sum := "27bdd2176f8f28da14c0fbb6a5c3eb929d8e796ad18c08e78b5d11238982fac8", func := "loop.example/g01258/laws.FnExactDrivenBy", spec := "fnExactDrivenBy", unfollowed := true, recurses := true, apart := false, narrowed := true }
def FnExactDrivenByUptoSaid : Prop := fnExactDrivenByUptoRow.holds Try.pinned (OpenSpec.upto fnExactDrivenBySpec)

/-- 'laws.FnExactFarthestOf', WHERE WHAT IT READS IS OF BULK AT MOST 1048576: true; the input reads as it did. -/
def fnExactFarthestOfUptoRow : OpenClaim := { program := "ytkpeiibncbcdhaa", sum := "27bdd2176f8f28da14c0fbb6a5c3eb929d8e796ad18c08e78b5d11238982fac8", func := "loop.example/g01258/laws.FnExactFarthestOf", spec := "fnExactFarthestOf", unfollowed := true, recurses := true, apart := false, narrowed := true }
def FnExactFarthestOfUptoSaid : Prop := fnExactFarthestOfUptoRow.holds Try.pinned (OpenSpec.upto fnExactFarthestOfSpec)

/-- 'laws.FnExactTakenAtStart', WHERE WHAT IT READS IS OF BULK AT MOST 1048576: true; the input reads as it did. -/
def fnExactTakenAtStartUptoRow : OpenClaim := { program := "ytkpeiibncbcdhaa", sum := "27bdd2176f8f28da14c0fbb6a5c3eb929d8e796ad18c08e78b5d11238982fac8", func := "loop.example/g01258/laws.FnExactTakenAtStart", spec := "fnExactTakenAtStart", unfollowed := true, recurses := true, apart := false, narrowed := true }
def FnExactTakenAtStartUptoSaid : Prop := fnExactTakenAtStartUptoRow.holds Try.pinned (OpenSpec.upto fnExactTakenAtStartSpec)

/-- 'laws.FnExactPlanOut', WHERE WHAT IT READS IS OF BULK AT MOST 1048576: true; the input reads as it did. -/
def fnExactPlanOutUptoRow : OpenClaim := { program := "ytkpeiibncbcdhaa", sum := "27bdd2176f8f28da14c0fbb6a5c3eb929d8e796ad18c08e78b5d11238982fac8", func := "loop.example/g01258/laws.FnExactPlanOut", spec := "fnExactPlanOut", unfollowed := true, recurses := true, apart := false, narrowed := true }
def FnExactPlanOutUptoSaid : Prop := fnExactPlanOutUptoRow.holds Try.pinned (OpenSpec.upto fnExactPlanOutSpec)

/-- 'laws.FnExactPlanBack', WHERE WHAT IT READS IS OF BULK AT MOST 1048576: true; the input reads as it did. -/
def fnExactPlanBackUptoRow : OpenClaim := { program := "ytkpeiibncbcdhaa", sum := "27bdd2176f8f28da14c0fbb6a5c3eb929d8e796ad18c08e78b5d11238982fac8", func := "loop.example/g01258/laws.FnExactPlanBack", spec := "fnExactPlanBack", unfollowed := true, recurses := true, apart := false, narrowed := true }
def FnExactPlanBackUptoSaid : Prop := fnExactPlanBackUptoRow.holds Try.pinned (OpenSpec.upto fnExactPlanBackSpec)

end Rows
end Go.Proofs.Ytkpeiibncbcdhaa
