/-
  No cell of these rows narrows 'for every input' (looked for: loops, veiled, ifaces, maps, wideKeys, modest, calm, conditions, laid).
  DERIVED. THE GIVEN ROWS OF THIS SEAT. 12 by the template 'for every input the law returns true; each argument reads behind the call as it read before'; 0 by the template 'total and deterministic' (their statements: YtjmmlknbdmngeaaTotals.lean).
  GIVEN WITH THE SEED: the statements are not yours to turn. If you find one false, say at which input.
  Laid BY PROGRAM, IN A SANDBOX (cutbox-rows.mjs): the forced cells as the released guide's own fill.sh prints them over the translation e5af49e6c7d131eb… (all of the seat's roots in one cut). By AI agents, Wed Nov 11 2026. No macro, syntax, notation, axiom, sorry.
-/
import Derived.Test.YtjmmlknbdmngeaaChecked
import GoSem.Claim
import GoSem.ClaimJoined
import GoSem.ClaimMapViews
import Derived.JoinedTies
import Derived.KernelRfl
namespace Go.Proofs.Ytjmmlknbdmngeaa
/- THE CELL 'sum', in the pinned program and in every row, IS THE sha256 OF THE DUMP (.gsa) THAT YtjmmlknbdmngeaaProg.lean LOADS. Nothing in Lean hashes anything: it is a label: what it is worth is what the hold of that sum in a sandbox is worth. -/
noncomputable def Try.pinned : Pinned := { name := "ytjmmlknbdmngeaa", sum := "e5af49e6c7d131eb44c57a50c9e64415c13425b23ffc3f17749fc5a314665059", checked := Try.checked }
namespace Rows
def none {H : Type} : Left H := { results := [], args := [] }

/-- 'laws.FnExactHarmonicSum': WHATEVER THE INPUT: true; the input reads as it did. -/
def fnExactHarmonicSumSpec : ChangeSpec := { name := "fnExactHarmonicSum", fn := fun _ => fun
  | [d] => { results := [.lit (.bool true)], args := [d] }
  | _ => none }
def fnExactHarmonicSumRow : OpenClaim := { program := "ytjmmlknbdmngeaa", sum := "e5af49e6c7d131eb44c57a50c9e64415c13425b23ffc3f17749fc5a314665059", func := "loop.example/g01258/laws.FnExactHarmonicSum", spec := "fnExactHarmonicSum", unfollowed := true, recurses := true, apart := false }
def FnExactHarmonicSumSaid : Prop := fnExactHarmonicSumRow.holds Try.pinned (OpenSpec.ofChange fnExactHarmonicSumSpec)

/-- ITS FALSE NEIGHBOUR: 'it returns false'. Refute it at one input. -/
def fnExactHarmonicSumWrong : ChangeSpec := { name := "fnExactHarmonicSum", fn := fun _ => fun
  | [d] => { results := [.lit (.bool false)], args := [d] }
  | _ => none }
def FnExactHarmonicSumWrongFalsely : Prop := fnExactHarmonicSumRow.holds Try.pinned (OpenSpec.ofChange fnExactHarmonicSumWrong)

/-- 'laws.FnExactOddHarmonicSum': WHATEVER THE INPUT: true; the input reads as it did. -/
def fnExactOddHarmonicSumSpec : ChangeSpec := { name := "fnExactOddHarmonicSum", fn := fun _ => fun
  | [d] => { results := [.lit (.bool true)], args := [d] }
  | _ => none }
def fnExactOddHarmonicSumRow : OpenClaim := { program := "ytjmmlknbdmngeaa", sum := "e5af49e6c7d131eb44c57a50c9e64415c13425b23ffc3f17749fc5a314665059", func := "loop.example/g01258/laws.FnExactOddHarmonicSum", spec := "fnExactOddHarmonicSum", unfollowed := true, recurses := true, apart := false }
def FnExactOddHarmonicSumSaid : Prop := fnExactOddHarmonicSumRow.holds Try.pinned (OpenSpec.ofChange fnExactOddHarmonicSumSpec)

/-- ITS FALSE NEIGHBOUR: 'it returns false'. Refute it at one input. -/
def fnExactOddHarmonicSumWrong : ChangeSpec := { name := "fnExactOddHarmonicSum", fn := fun _ => fun
  | [d] => { results := [.lit (.bool false)], args := [d] }
  | _ => none }
def FnExactOddHarmonicSumWrongFalsely : Prop := fnExactOddHarmonicSumRow.holds Try.pinned (OpenSpec.ofChange fnExactOddHarmonicSumWrong)

/-- 'laws.FnExactHarmonicCount': WHATEVER THE INPUT: true; the input reads as it did. -/
def fnExactHarmonicCountSpec : ChangeSpec := { name := "fnExactHarmonicCount", fn := fun _ => fun
  | [d] => { results := [.lit (.bool true)], args := [d] }
  | _ => none }
def fnExactHarmonicCountRow : OpenClaim := { program := "ytjmmlknbdmngeaa", sum := "e5af49e6c7d131eb44c57a50c9e64415c13425b23ffc3f17749fc5a314665059", func := "loop.example/g01258/laws.FnExactHarmonicCount", spec := "fnExactHarmonicCount", unfollowed := true, recurses := true, apart := false }
def FnExactHarmonicCountSaid : Prop := fnExactHarmonicCountRow.holds Try.pinned (OpenSpec.ofChange fnExactHarmonicCountSpec)

/-- ITS FALSE NEIGHBOUR: 'it returns false'. Refute it at one input. -/
def fnExactHarmonicCountWrong : ChangeSpec := { name := "fnExactHarmonicCount", fn := fun _ => fun
  | [d] => { results := [.lit (.bool false)], args := [d] }
  | _ => none }
def FnExactHarmonicCountWrongFalsely : Prop := fnExactHarmonicCountRow.holds Try.pinned (OpenSpec.ofChange fnExactHarmonicCountWrong)

/-- 'laws.FnExactOddHarmonicCount': WHATEVER THE INPUT: true; the input reads as it did. -/
def fnExactOddHarmonicCountSpec : ChangeSpec := { name := "fnExactOddHarmonicCount", fn := fun _ => fun
  | [d] => { results := [.lit (.bool true)], args := [d] }
  | _ => none }
def fnExactOddHarmonicCountRow : OpenClaim := { program := "ytjmmlknbdmngeaa", sum := "e5af49e6c7d131eb44c57a50c9e64415c13425b23ffc3f17749fc5a314665059", func := "loop.example/g01258/laws.FnExactOddHarmonicCount", spec := "fnExactOddHarmonicCount", unfollowed := true, recurses := true, apart := false }
def FnExactOddHarmonicCountSaid : Prop := fnExactOddHarmonicCountRow.holds Try.pinned (OpenSpec.ofChange fnExactOddHarmonicCountSpec)

/-- ITS FALSE NEIGHBOUR: 'it returns false'. Refute it at one input. -/
def fnExactOddHarmonicCountWrong : ChangeSpec := { name := "fnExactOddHarmonicCount", fn := fun _ => fun
  | [d] => { results := [.lit (.bool false)], args := [d] }
  | _ => none }
def FnExactOddHarmonicCountWrongFalsely : Prop := fnExactOddHarmonicCountRow.holds Try.pinned (OpenSpec.ofChange fnExactOddHarmonicCountWrong)

/-- 'laws.FnExactFuelHere': WHATEVER THE INPUT: true; the input reads as it did. -/
def fnExactFuelHereSpec : ChangeSpec := { name := "fnExactFuelHere", fn := fun _ => fun
  | [d] => { results := [.lit (.bool true)], args := [d] }
  | _ => none }
def fnExactFuelHereRow : OpenClaim := { program := "ytjmmlknbdmngeaa", sum := "e5af49e6c7d131eb44c57a50c9e64415c13425b23ffc3f17749fc5a314665059", func := "loop.example/g01258/laws.FnExactFuelHere", spec := "fnExactFuelHere", apart := false }
def FnExactFuelHereSaid : Prop := fnExactFuelHereRow.holds Try.pinned (OpenSpec.ofChange fnExactFuelHereSpec)

/-- ITS FALSE NEIGHBOUR: 'it returns false'. Refute it at one input. -/
def fnExactFuelHereWrong : ChangeSpec := { name := "fnExactFuelHere", fn := fun _ => fun
  | [d] => { results := [.lit (.bool false)], args := [d] }
  | _ => none }
def FnExactFuelHereWrongFalsely : Prop := fnExactFuelHereRow.holds Try.pinned (OpenSpec.ofChange fnExactFuelHereWrong)

/-- 'laws.FnExactPlayStep': WHATEVER THE INPUT: true; the input reads as it did. -/
def fnExactPlayStepSpec : ChangeSpec := { name := "fnExactPlayStep", fn := fun _ => fun
  | [d1, d2] => { results := [.lit (.bool true)], args := [d1, d2] }
  | _ => none }
def fnExactPlayStepRow : OpenClaim := { program := "ytjmmlknbdmngeaa", sum := "e5af49e6c7d131eb44c57a50c9e64415c13425b23ffc3f17749fc5a314665059", func := "loop.example/g01258/laws.FnExactPlayStep", spec := "fnExactPlayStep", unfollowed := true, recurses := true, apart := false }
def FnExactPlayStepSaid : Prop := fnExactPlayStepRow.holds Try.pinned (OpenSpec.ofChange fnExactPlayStepSpec)

/-- ITS FALSE NEIGHBOUR: 'it returns false'. Refute it at one input. -/
def fnExactPlayStepWrong : ChangeSpec := { name := "fnExactPlayStep", fn := fun _ => fun
  | [d1, d2] => { results := [.lit (.bool false)], args := [d1, d2] }
  | _ => none }
def FnExactPlayStepWrongFalsely : Prop := fnExactPlayStepRow.holds Try.pinned (OpenSpec.ofChange fnExactPlayStepWrong)

/-- 'laws.FnExactPlaySteps': WHATEVER THE INPUT: true; the input reads as it did. -/
def fnExactPlayStepsSpec : ChangeSpec := { name := "fnExactPlaySteps", fn := fun _ => fun
  | [d1, d2] => { results := [.lit (.bool true)], args := [d1, d2] }
  | _ => none }
def fnExactPlayStepsRow : OpenClaim := { program := "ytjmmlknbdmngeaa", sum := "e5af49e6c7d131eb44c57a50c9e64415c13425b23ffc3f17749fc5a314665059", func := "loop.example/g01258/laws.FnExactPlaySteps", spec := "fnExactPlaySteps", unfollowed := true, recurses := true, apart := false }
def FnExactPlayStepsSaid : Prop := fnExactPlayStepsRow.holds Try.pinned (OpenSpec.ofChange fnExactPlayStepsSpec)

/-- ITS FALSE NEIGHBOUR: 'it returns false'. Refute it at one input. -/
def fnExactPlayStepsWrong : ChangeSpec := { name := "fnExactPlaySteps", fn := fun _ => fun
  | [d1, d2] => { results := [.lit (.bool false)], args := [d1, d2] }
  | _ => none }
def FnExactPlayStepsWrongFalsely : Prop := fnExactPlayStepsRow.holds Try.pinned (OpenSpec.ofChange fnExactPlayStepsWrong)

/-- 'laws.FnExactStepThatFails': WHATEVER THE INPUT: true; the input reads as it did. -/
def fnExactStepThatFailsSpec : ChangeSpec := { name := "fnExactStepThatFails", fn := fun _ => fun
  | [d1, d2] => { results := [.lit (.bool true)], args := [d1, d2] }
  | _ => none }
def fnExactStepThatFailsRow : OpenClaim := { program := "ytjmmlknbdmngeaa", sum := "e5af49e6c7d131eb44c57a50c9e64415c13425b23ffc3f17749fc5a314665059", func := "loop.example/g01258/laws.FnExactStepThatFails", spec := "fnExactStepThatFails", unfollowed := true, recurses := true, apart := false }
def FnExactStepThatFailsSaid : Prop := fnExactStepThatFailsRow.holds Try.pinned (OpenSpec.ofChange fnExactStepThatFailsSpec)

/-- ITS FALSE NEIGHBOUR: 'it returns false'. Refute it at one input. -/
def fnExactStepThatFailsWrong : ChangeSpec := { name := "fnExactStepThatFails", fn := fun _ => fun
  | [d1, d2] => { results := [.lit (.bool false)], args := [d1, d2] }
  | _ => none }
def FnExactStepThatFailsWrongFalsely : Prop := fnExactStepThatFailsRow.holds Try.pinned (OpenSpec.ofChange fnExactStepThatFailsWrong)

/-- 'laws.FnExactFarthestOf': WHATEVER THE INPUT: true; the input reads as it did. -/
def fnExactFarthestOfSpec : ChangeSpec := { name := "fnExactFarthestOf", fn := fun _ => fun
  | [d1, d2] => { results := [.lit (.bool true)], args := [d1, d2] }
  | _ => none }
def fnExactFarthestOfRow : OpenClaim := { program := "ytjmmlknbdmngeaa", sum := "e5af49e6c7d131eb44c57a50c9e64415c13425b23ffc3f17749fc5a314665059", func := "loop.example/g01258/laws.FnExactFarthestOf", spec := "fnExactFarthestOf", unfollowed := true, recurses := true, apart := false }
def FnExactFarthestOfSaid : Prop := fnExactFarthestOfRow.holds Try.pinned (OpenSpec.ofChange fnExactFarthestOfSpec)

/-- ITS FALSE NEIGHBOUR: 'it returns false'. Refute it at one input. -/
def fnExactFarthestOfWrong : ChangeSpec := { name := "fnExactFarthestOf", fn := fun _ => fun
  | [d1, d2] => { results := [.lit (.bool false)], args := [d1, d2] }
  | _ => none }
def FnExactFarthestOfWrongFalsely : Prop := fnExactFarthestOfRow.holds Try.pinned (OpenSpec.ofChange fnExactFarthestOfWrong)

/-- 'laws.FnExactTakenAtStart': WHATEVER THE INPUT: true; the input reads as it did. -/
def fnExactTakenAtStartSpec : ChangeSpec := { name := "fnExactTakenAtStart", fn := fun _ => fun
  | [d1, d2] => { results := [.lit (.bool true)], args := [d1, d2] }
  | _ => none }
def fnExactTakenAtStartRow : OpenClaim := { program := "ytjmmlknbdmngeaa", sum := "e5af49e6c7d131eb44c57a50c9e64415c13425b23ffc3f17749fc5a314665059", func := "loop.example/g01258/laws.FnExactTakenAtStart", spec := "fnExactTakenAtStart", unfollowed := true, recurses := true, apart := false }
def FnExactTakenAtStartSaid : Prop := fnExactTakenAtStartRow.holds Try.pinned (OpenSpec.ofChange fnExactTakenAtStartSpec)

/-- ITS FALSE NEIGHBOUR: 'it returns false'. Refute it at one input. -/
def fnExactTakenAtStartWrong : ChangeSpec := { name := "fnExactTakenAtStart", fn := fun _ => fun
  | [d1, d2] => { results := [.lit (.bool false)], args := [d1, d2] }
  | _ => none }
def FnExactTakenAtStartWrongFalsely : Prop := fnExactTakenAtStartRow.holds Try.pinned (OpenSpec.ofChange fnExactTakenAtStartWrong)

/-- 'laws.FnExactPlanOut': WHATEVER THE INPUT: true; the input reads as it did. -/
def fnExactPlanOutSpec : ChangeSpec := { name := "fnExactPlanOut", fn := fun _ => fun
  | [d] => { results := [.lit (.bool true)], args := [d] }
  | _ => none }
def fnExactPlanOutRow : OpenClaim := { program := "ytjmmlknbdmngeaa", sum := "e5af49e6c7d131eb44c57a50c9e64415c13425b23ffc3f17749fc5a314665059", func := "loop.example/g01258/laws.FnExactPlanOut", spec := "fnExactPlanOut", unfollowed := true, recurses := true, apart := false }
def FnExactPlanOutSaid : Prop := fnExactPlanOutRow.holds Try.pinned (OpenSpec.ofChange fnExactPlanOutSpec)

/-- ITS FALSE NEIGHBOUR: 'it returns false'. Refute it at one input. -/
def fnExactPlanOutWrong : ChangeSpec := { name := "fnExactPlanOut", fn := fun _ => fun
  | [d] => { results := [.lit (.bool false)], args := [d] }
  | _ => none }
def FnExactPlanOutWrongFalsely : Prop := fnExactPlanOutRow.holds Try.pinned (OpenSpec.ofChange fnExactPlanOutWrong)

/-- 'laws.FnExactPlanBack': WHATEVER THE INPUT: true; the input reads as it did. -/
def fnExactPlanBackSpec : ChangeSpec := { name := "fnExactPlanBack", fn := fun _ => fun
  | [d] => { results := [.lit (.bool true)], args := [d] }
  | _ => none }
def fnExactPlanBackRow : OpenClaim := { program := "ytjmmlknbdmngeaa", sum := "e5af49e6c7d131eb44c57a50c9e64415c13425b23ffc3f17749fc5a314665059", func := "loop.example/g01258/laws.FnExactPlanBack", spec := "fnExactPlanBack", unfollowed := true, recurses := true, apart := false }
def FnExactPlanBackSaid : Prop := fnExactPlanBackRow.holds Try.pinned (OpenSpec.ofChange fnExactPlanBackSpec)

/-- ITS FALSE NEIGHBOUR: 'it returns false'. Refute it at one input. -/
def fnExactPlanBackWrong : ChangeSpec := { name := "fnExactPlanBack", fn := fun _ => fun
  | [d] => { results := [.lit (.bool false)], args := [d] }
  | _ => none }
def FnExactPlanBackWrongFalsely : Prop := fnExactPlanBackRow.holds Try.pinned (OpenSpec.ofChange fnExactPlanBackWrong)

/- THE SECOND FORM. 'bulk': how many values and letters a reading holds, each counted each time it is reached (what is shared counts as often as it is met; a slice's spare places count too). A statement '..UptoSaid' is the law's where the arguments, and the package variables that the reading takes, are together of bulk at most 1048576: NARROWER than '..Said'. Prove '..Said' where nothing that the law and all that it calls make is longer than what came in: it says more and counts as full. Else prove '..UptoSaid'. A law counts once. -/
mutual
def uptoBulk {H : Type} : DataW H → Nat
  | .lit (.string bytes) => bytes.length + 1
  | .lit _ => 1
  | .nil => 1
  | .ptr d => uptoBulk d + 1
  | .slice elems spare => uptoBulkAll elems + uptoBulkAll spare + 1
  | .agg parts => uptoBulkAll parts + 1
  | .iface _ d => uptoBulk d + 1
  | .map entries => uptoBulkEntries entries + 1
  | .held _ => 1
def uptoBulkAll {H : Type} : List (DataW H) → Nat
  | [] => 0
  | d :: r => uptoBulk d + uptoBulkAll r
def uptoBulkEntries {H : Type} : List (Lit × DataW H) → Nat
  | [] => 0
  | x :: r => uptoBulkEntry x + uptoBulkEntries r
def uptoBulkEntry {H : Type} : Lit × DataW H → Nat
  | (.string bytes, d) => bytes.length + uptoBulk d + 1
  | (_, d) => uptoBulk d + 1
 end
def uptoSmall : (H : Type) → List (DataW H) → Bool := fun _ ds => decide (uptoBulkAll ds ≤ 1048576)
def OpenSpec.upto (s : _root_.Go.ChangeSpec) : _root_.Go.OpenSpec := { _root_.Go.OpenSpec.ofChange s with cond := some uptoSmall }

/-- 'laws.FnExactHarmonicSum', WHERE WHAT IT READS IS OF BULK AT MOST 1048576: true; the input reads as it did. -/
def fnExactHarmonicSumUptoRow : OpenClaim := { program := "ytjmmlknbdmngeaa", sum := "e5af49e6c7d131eb44c57a50c9e64415c13425b23ffc3f17749fc5a314665059", func := "loop.example/g01258/laws.FnExactHarmonicSum", spec := "fnExactHarmonicSum", unfollowed := true, recurses := true, apart := false, narrowed := true }
def FnExactHarmonicSumUptoSaid : Prop := fnExactHarmonicSumUptoRow.holds Try.pinned (OpenSpec.upto fnExactHarmonicSumSpec)

/-- 'laws.FnExactOddHarmonicSum', WHERE WHAT IT READS IS OF BULK AT MOST 1048576: true; the input reads as it did. -/
def fnExactOddHarmonicSumUptoRow : OpenClaim := { program := "ytjmmlknbdmngeaa", sum := "e5af49e6c7d131eb44c57a50c9e64415c13425b23ffc3f17749fc5a314665059", func := "loop.example/g01258/laws.FnExactOddHarmonicSum", spec := "fnExactOddHarmonicSum", unfollowed := true, recurses := true, apart := false, narrowed := true }
def FnExactOddHarmonicSumUptoSaid : Prop := fnExactOddHarmonicSumUptoRow.holds Try.pinned (OpenSpec.upto fnExactOddHarmonicSumSpec)

/-- 'laws.FnExactHarmonicCount', WHERE WHAT IT READS IS OF BULK AT MOST 1048576: true; the input reads as it did. -/
def fnExactHarmonicCountUptoRow : OpenClaim := { program := "ytjmmlknbdmngeaa", sum := "e5af49e6c7d131eb44c57a50c9e64415c13425b23ffc3f17749fc5a314665059", func := "loop.example/g01258/laws.FnExactHarmonicCount", spec := "fnExactHarmonicCount", unfollowed := true, recurses := true, apart := false, narrowed := true }
def FnExactHarmonicCountUptoSaid : Prop := fnExactHarmonicCountUptoRow.holds Try.pinned (OpenSpec.upto fnExactHarmonicCountSpec)

/-- 'laws.FnExactOddHarmonicCount', WHERE WHAT IT READS IS OF BULK AT MOST 1048576: true; the input reads as it did. -/
def fnExactOddHarmonicCountUptoRow : OpenClaim := { program := "ytjmmlknbdmngeaa", sum := "e5af49e6c7d131eb44c57a50c9e64415c13425b23ffc3f17749fc5a314665059", func := "loop.example/g01258/laws.FnExactOddHarmonicCount", spec := "fnExactOddHarmonicCount", unfollowed := true, recurses := true, apart := false, narrowed := true }
def FnExactOddHarmonicCountUptoSaid : Prop := fnExactOddHarmonicCountUptoRow.holds Try.pinned (OpenSpec.upto fnExactOddHarmonicCountSpec)

/-- 'laws.FnExactFuelHere', WHERE WHAT IT READS IS OF BULK AT MOST 1048576: true; the input reads as it did. -/
def fnExactFuelHereUptoRow : OpenClaim := { program := "ytjmmlknbdmngeaa", sum := "e5af49e6c7d131eb44c57a50c9e64415c13425b23ffc3f17749fc5a314665059", func := "loop.example/g01258/laws.FnExactFuelHere", spec := "fnExactFuelHere", apart := false, narrowed := true }
def FnExactFuelHereUptoSaid : Prop := fnExactFuelHereUptoRow.holds Try.pinned (OpenSpec.upto fnExactFuelHereSpec)

/-- 'laws.FnExactPlayStep', WHERE WHAT IT READS IS OF BULK AT MOST 1048576: true; the input reads as it did. -/
def fnExactPlayStepUptoRow : OpenClaim := { program := "ytjmmlknbdmngeaa", sum := "e5af49e6c7d131eb44c57a50c9e64415c13425b23ffc3f17749fc5a314665059", func := "loop.example/g01258/laws.FnExactPlayStep", spec := "fnExactPlayStep", unfollowed := true, recurses := true, apart := false, narrowed := true }
def FnExactPlayStepUptoSaid : Prop := fnExactPlayStepUptoRow.holds Try.pinned (OpenSpec.upto fnExactPlayStepSpec)

/-- 'laws.FnExactPlaySteps', WHERE WHAT IT READS IS OF BULK AT MOST 1048576: true; the input reads as it did. -/
def fnExactPlayStepsUptoRow : OpenClaim := { program := "ytjmmlknbdmngeaa", sum := "e5af49e6c7d131eb44c57a50c9e64415c13425b23ffc3f17749fc5a314665059", func := "loop.example/g01258/laws.FnExactPlaySteps", spec := "fnExactPlaySteps", unfollowed := true, recurses := true, apart := false, narrowed := true }
def FnExactPlayStepsUptoSaid : Prop := fnExactPlayStepsUptoRow.holds Try.pinned (OpenSpec.upto fnExactPlayStepsSpec)

/-- 'laws.FnExactStepThatFails', WHERE WHAT IT READS IS OF BULK AT MOST 1048576: true; the input reads as it did. -/
def fnExactStepThatFailsUptoRow : OpenClaim := { program := "ytjmmlknbdmngeaa", sum := "e5af49e6c7d131eb44c57a50c9e64415c13425b23ffc3f17749fc5a314665059", func := "loop.example/g01258/laws.FnExactStepThatFails", spec := "fnExactStepThatFails", unfollowed := true, recurses := true, apart := false, narrowed := true }
def FnExactStepThatFailsUptoSaid : Prop := fnExactStepThatFailsUptoRow.holds Try.pinned (OpenSpec.upto fnExactStepThatFailsSpec)

/-- 'laws.FnExactFarthestOf', WHERE WHAT IT READS IS OF BULK AT MOST 1048576: true; the input reads as it did. -/
def fnExactFarthestOfUptoRow : OpenClaim := { program := "ytjmmlknbdmngeaa", sum := "e5af49e6c7d131eb44c57a50c9e64415c13425b23ffc3f17749fc5a314665059", func := "loop.example/g01258/laws.FnExactFarthestOf", spec := "fnExactFarthestOf", unfollowed := true, recurses := true, apart := false, narrowed := true }
def FnExactFarthestOfUptoSaid : Prop := fnExactFarthestOfUptoRow.holds Try.pinned (OpenSpec.upto fnExactFarthestOfSpec)

/-- 'laws.FnExactTakenAtStart', WHERE WHAT IT READS IS OF BULK AT MOST 1048576: true; the input reads as it did. -/
def fnExactTakenAtStartUptoRow : OpenClaim := { program := "ytjmmlknbdmngeaa", sum := "e5af49e6c7d131eb44c57a50c9e64415c13425b23ffc3f17749fc5a314665059", func := "loop.example/g01258/laws.FnExactTakenAtStart", spec := "fnExactTakenAtStart", unfollowed := true, recurses := true, apart := false, narrowed := true }
def FnExactTakenAtStartUptoSaid : Prop := fnExactTakenAtStartUptoRow.holds Try.pinned (OpenSpec.upto fnExactTakenAtStartSpec)

/-- 'laws.FnExactPlanOut', WHERE WHAT IT READS IS OF BULK AT MOST 1048576: true; the input reads as it did. -/
def fnExactPlanOutUptoRow : OpenClaim := { program := "ytjmmlknbdmngeaa", sum := "e5af49e6c7d131eb44c57a50c9e64415c13425b23ffc3f17749fc5a314665059", func := "loop.example/g01258/laws.FnExactPlanOut", spec := "fnExactPlanOut", unfollowed := true, recurses := true, apart := false, narrowed := true }
def FnExactPlanOutUptoSaid : Prop := fnExactPlanOutUptoRow.holds Try.pinned (OpenSpec.upto fnExactPlanOutSpec)

/-- 'laws.FnExactPlanBack', WHERE WHAT IT READS IS OF BULK AT MOST 1048576: true; the input reads as it did. -/
def fnExactPlanBackUptoRow : OpenClaim := { program := "ytjmmlknbdmngeaa", sum := "e5af49e6c7d131eb44c57a50c9e64415c13425b23ffc3f17749fc5a314665059", func := "loop.example/g01258/laws.FnExactPlanBack", spec := "fnExactPlanBack", unfollowed := true, recurses := true, apart := false, narrowed := true }
def FnExactPlanBackUptoSaid : Prop := fnExactPlanBackUptoRow.holds Try.pinned (OpenSpec.upto fnExactPlanBackSpec)

end Rows
end Go.Proofs.Ytjmmlknbdmngeaa
