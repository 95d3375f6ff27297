/-
  No cell of these rows narrows 'for every input' (looked for: loops, veiled, ifaces, maps, wideKeys, modest, calm, conditions, laid).
  DERIVED. THE GIVEN ROWS OF THIS SEAT. 15 by the template 'for every input the law returns true; each argument reads behind the call as it read before'; 0 by the template 'total and deterministic' (their statements: YtlfbnogkbdgnaaaTotals.lean).
  GIVEN WITH THE SEED: the statements are not yours to turn. If you find one false, say at which input.
  Laid BY PROGRAM, IN A SANDBOX (cutbox-rows.mjs): the forced cells as the released guide's own fill.sh prints them over the translation db409d14fa479a86… (all of the seat's roots in one cut). By AI agents, Wed Nov 11 2026. No macro, syntax, notation, axiom, sorry.
-/
import Derived.Test.YtlfbnogkbdgnaaaChecked
import GoSem.Claim
import GoSem.ClaimJoined
import GoSem.ClaimMapViews
import Derived.JoinedTies
import Derived.KernelRfl
namespace Go.Proofs.Ytlfbnogkbdgnaaa
/- THE CELL 'sum', in the pinned program and in every row, IS THE sha256 OF THE DUMP (.gsa) THAT YtlfbnogkbdgnaaaProg.lean LOADS. Nothing in Lean hashes anything: it is a label: what it is worth is what the hold of that sum in a sandbox is worth. -/
noncomputable def Try.pinned : Pinned := { name := "ytlfbnogkbdgnaaa", sum := "db409d14fa479a860a8776fbd50d76234c455bdf1f5dac6e451d256d6b318fa9", checked := Try.checked }
namespace Rows
def none {H : Type} : Left H := { results := [], args := [] }

/-- 'laws.FnExactIsAmount': WHATEVER THE INPUT: true; the input reads as it did. -/
def fnExactIsAmountSpec : ChangeSpec := { name := "fnExactIsAmount", fn := fun _ => fun
  | [d] => { results := [.lit (.bool true)], args := [d] }
  | _ => none }
def fnExactIsAmountRow : OpenClaim := { program := "ytlfbnogkbdgnaaa", sum := "db409d14fa479a860a8776fbd50d76234c455bdf1f5dac6e451d256d6b318fa9", func := "loop.example/g01258/laws.FnExactIsAmount", spec := "fnExactIsAmount", apart := false }
def FnExactIsAmountSaid : Prop := fnExactIsAmountRow.holds Try.pinned (OpenSpec.ofChange fnExactIsAmountSpec)

/-- ITS FALSE NEIGHBOUR: 'it returns false'. Refute it at one input. -/
def fnExactIsAmountWrong : ChangeSpec := { name := "fnExactIsAmount", fn := fun _ => fun
  | [d] => { results := [.lit (.bool false)], args := [d] }
  | _ => none }
def FnExactIsAmountWrongFalsely : Prop := fnExactIsAmountRow.holds Try.pinned (OpenSpec.ofChange fnExactIsAmountWrong)

/-- 'laws.FnExactMakeAmount': WHATEVER THE INPUT: true; the input reads as it did. -/
def fnExactMakeAmountSpec : ChangeSpec := { name := "fnExactMakeAmount", fn := fun _ => fun
  | [d1, d2] => { results := [.lit (.bool true)], args := [d1, d2] }
  | _ => none }
def fnExactMakeAmountRow : OpenClaim := { program := "ytlfbnogkbdgnaaa", sum := "db409d14fa479a860a8776fbd50d76234c455bdf1f5dac6e451d256d6b318fa9", func := "loop.example/g01258/laws.FnExactMakeAmount", spec := "fnExactMakeAmount", apart := false }
def FnExactMakeAmountSaid : Prop := fnExactMakeAmountRow.holds Try.pinned (OpenSpec.ofChange fnExactMakeAmountSpec)

/-- ITS FALSE NEIGHBOUR: 'it returns false'. Refute it at one input. -/
def fnExactMakeAmountWrong : ChangeSpec := { name := "fnExactMakeAmount", fn := fun _ => fun
  | [d1, d2] => { results := [.lit (.bool false)], args := [d1, d2] }
  | _ => none }
def FnExactMakeAmountWrongFalsely : Prop := fnExactMakeAmountRow.holds Try.pinned (OpenSpec.ofChange fnExactMakeAmountWrong)

/-- 'laws.FnExactAddAmounts': WHATEVER THE INPUT: true; the input reads as it did. -/
def fnExactAddAmountsSpec : ChangeSpec := { name := "fnExactAddAmounts", fn := fun _ => fun
  | [d1, d2] => { results := [.lit (.bool true)], args := [d1, d2] }
  | _ => none }
def fnExactAddAmountsRow : OpenClaim := { program := "ytlfbnogkbdgnaaa", sum := "db409d14fa479a860a8776fbd50d76234c455bdf1f5dac6e451d256d6b318fa9", func := "loop.example/g01258/laws.FnExactAddAmounts", spec := "fnExactAddAmounts", unfollowed := true, recurses := true, apart := false }
def FnExactAddAmountsSaid : Prop := fnExactAddAmountsRow.holds Try.pinned (OpenSpec.ofChange fnExactAddAmountsSpec)

/-- ITS FALSE NEIGHBOUR: 'it returns false'. Refute it at one input. -/
def fnExactAddAmountsWrong : ChangeSpec := { name := "fnExactAddAmounts", fn := fun _ => fun
  | [d1, d2] => { results := [.lit (.bool false)], args := [d1, d2] }
  | _ => none }
def FnExactAddAmountsWrongFalsely : Prop := fnExactAddAmountsRow.holds Try.pinned (OpenSpec.ofChange fnExactAddAmountsWrong)

/-- 'laws.FnExactLessAmount': WHATEVER THE INPUT: true; the input reads as it did. -/
def fnExactLessAmountSpec : ChangeSpec := { name := "fnExactLessAmount", fn := fun _ => fun
  | [d1, d2] => { results := [.lit (.bool true)], args := [d1, d2] }
  | _ => none }
def fnExactLessAmountRow : OpenClaim := { program := "ytlfbnogkbdgnaaa", sum := "db409d14fa479a860a8776fbd50d76234c455bdf1f5dac6e451d256d6b318fa9", func := "loop.example/g01258/laws.FnExactLessAmount", spec := "fnExactLessAmount", unfollowed := true, recurses := true, apart := false }
def FnExactLessAmountSaid : Prop := fnExactLessAmountRow.holds Try.pinned (OpenSpec.ofChange fnExactLessAmountSpec)

/-- ITS FALSE NEIGHBOUR: 'it returns false'. Refute it at one input. -/
def fnExactLessAmountWrong : ChangeSpec := { name := "fnExactLessAmount", fn := fun _ => fun
  | [d1, d2] => { results := [.lit (.bool false)], args := [d1, d2] }
  | _ => none }
def FnExactLessAmountWrongFalsely : Prop := fnExactLessAmountRow.holds Try.pinned (OpenSpec.ofChange fnExactLessAmountWrong)

/-- 'laws.FnExactTimesAmount': WHATEVER THE INPUT: true; the input reads as it did. -/
def fnExactTimesAmountSpec : ChangeSpec := { name := "fnExactTimesAmount", fn := fun _ => fun
  | [d1, d2] => { results := [.lit (.bool true)], args := [d1, d2] }
  | _ => none }
def fnExactTimesAmountRow : OpenClaim := { program := "ytlfbnogkbdgnaaa", sum := "db409d14fa479a860a8776fbd50d76234c455bdf1f5dac6e451d256d6b318fa9", func := "loop.example/g01258/laws.FnExactTimesAmount", spec := "fnExactTimesAmount", unfollowed := true, recurses := true, apart := false }
def FnExactTimesAmountSaid : Prop := fnExactTimesAmountRow.holds Try.pinned (OpenSpec.ofChange fnExactTimesAmountSpec)

/-- ITS FALSE NEIGHBOUR: 'it returns false'. Refute it at one input. -/
def fnExactTimesAmountWrong : ChangeSpec := { name := "fnExactTimesAmount", fn := fun _ => fun
  | [d1, d2] => { results := [.lit (.bool false)], args := [d1, d2] }
  | _ => none }
def FnExactTimesAmountWrongFalsely : Prop := fnExactTimesAmountRow.holds Try.pinned (OpenSpec.ofChange fnExactTimesAmountWrong)

/-- 'laws.FnExactPartAmount': WHATEVER THE INPUT: true; the input reads as it did. -/
def fnExactPartAmountSpec : ChangeSpec := { name := "fnExactPartAmount", fn := fun _ => fun
  | [d1, d2] => { results := [.lit (.bool true)], args := [d1, d2] }
  | _ => none }
def fnExactPartAmountRow : OpenClaim := { program := "ytlfbnogkbdgnaaa", sum := "db409d14fa479a860a8776fbd50d76234c455bdf1f5dac6e451d256d6b318fa9", func := "loop.example/g01258/laws.FnExactPartAmount", spec := "fnExactPartAmount", unfollowed := true, recurses := true, apart := false }
def FnExactPartAmountSaid : Prop := fnExactPartAmountRow.holds Try.pinned (OpenSpec.ofChange fnExactPartAmountSpec)

/-- ITS FALSE NEIGHBOUR: 'it returns false'. Refute it at one input. -/
def fnExactPartAmountWrong : ChangeSpec := { name := "fnExactPartAmount", fn := fun _ => fun
  | [d1, d2] => { results := [.lit (.bool false)], args := [d1, d2] }
  | _ => none }
def FnExactPartAmountWrongFalsely : Prop := fnExactPartAmountRow.holds Try.pinned (OpenSpec.ofChange fnExactPartAmountWrong)

/-- 'laws.FnExactCompareAmounts': WHATEVER THE INPUT: true; the input reads as it did. -/
def fnExactCompareAmountsSpec : ChangeSpec := { name := "fnExactCompareAmounts", fn := fun _ => fun
  | [d1, d2] => { results := [.lit (.bool true)], args := [d1, d2] }
  | _ => none }
def fnExactCompareAmountsRow : OpenClaim := { program := "ytlfbnogkbdgnaaa", sum := "db409d14fa479a860a8776fbd50d76234c455bdf1f5dac6e451d256d6b318fa9", func := "loop.example/g01258/laws.FnExactCompareAmounts", spec := "fnExactCompareAmounts", apart := false }
def FnExactCompareAmountsSaid : Prop := fnExactCompareAmountsRow.holds Try.pinned (OpenSpec.ofChange fnExactCompareAmountsSpec)

/-- ITS FALSE NEIGHBOUR: 'it returns false'. Refute it at one input. -/
def fnExactCompareAmountsWrong : ChangeSpec := { name := "fnExactCompareAmounts", fn := fun _ => fun
  | [d1, d2] => { results := [.lit (.bool false)], args := [d1, d2] }
  | _ => none }
def FnExactCompareAmountsWrongFalsely : Prop := fnExactCompareAmountsRow.holds Try.pinned (OpenSpec.ofChange fnExactCompareAmountsWrong)

/-- 'laws.FnExactWholePart': WHATEVER THE INPUT: true; the input reads as it did. -/
def fnExactWholePartSpec : ChangeSpec := { name := "fnExactWholePart", fn := fun _ => fun
  | [d] => { results := [.lit (.bool true)], args := [d] }
  | _ => none }
def fnExactWholePartRow : OpenClaim := { program := "ytlfbnogkbdgnaaa", sum := "db409d14fa479a860a8776fbd50d76234c455bdf1f5dac6e451d256d6b318fa9", func := "loop.example/g01258/laws.FnExactWholePart", spec := "fnExactWholePart", apart := false }
def FnExactWholePartSaid : Prop := fnExactWholePartRow.holds Try.pinned (OpenSpec.ofChange fnExactWholePartSpec)

/-- ITS FALSE NEIGHBOUR: 'it returns false'. Refute it at one input. -/
def fnExactWholePartWrong : ChangeSpec := { name := "fnExactWholePart", fn := fun _ => fun
  | [d] => { results := [.lit (.bool false)], args := [d] }
  | _ => none }
def FnExactWholePartWrongFalsely : Prop := fnExactWholePartRow.holds Try.pinned (OpenSpec.ofChange fnExactWholePartWrong)

/-- 'laws.FnExactSumAmounts': WHATEVER THE INPUT: true; the input reads as it did. -/
def fnExactSumAmountsSpec : ChangeSpec := { name := "fnExactSumAmounts", fn := fun _ => fun
  | [d] => { results := [.lit (.bool true)], args := [d] }
  | _ => none }
def fnExactSumAmountsRow : OpenClaim := { program := "ytlfbnogkbdgnaaa", sum := "db409d14fa479a860a8776fbd50d76234c455bdf1f5dac6e451d256d6b318fa9", func := "loop.example/g01258/laws.FnExactSumAmounts", spec := "fnExactSumAmounts", unfollowed := true, recurses := true, apart := false }
def FnExactSumAmountsSaid : Prop := fnExactSumAmountsRow.holds Try.pinned (OpenSpec.ofChange fnExactSumAmountsSpec)

/-- ITS FALSE NEIGHBOUR: 'it returns false'. Refute it at one input. -/
def fnExactSumAmountsWrong : ChangeSpec := { name := "fnExactSumAmounts", fn := fun _ => fun
  | [d] => { results := [.lit (.bool false)], args := [d] }
  | _ => none }
def FnExactSumAmountsWrongFalsely : Prop := fnExactSumAmountsRow.holds Try.pinned (OpenSpec.ofChange fnExactSumAmountsWrong)

/-- 'laws.FnExactHarmonicSum': WHATEVER THE INPUT: true; the input reads as it did. -/
def fnExactHarmonicSumSpec : ChangeSpec := { name := "fnExactHarmonicSum", fn := fun _ => fun
  | [d] => { results := [.lit (.bool true)], args := [d] }
  | _ => none }
def fnExactHarmonicSumRow : OpenClaim := { program := "ytlfbnogkbdgnaaa", sum := "db409d14fa479a860a8776fbd50d76234c455bdf1f5dac6e451d256d6b318fa9", func := "loop.example/g01258/laws.FnExactHarmonicSum", spec := "fnExactHarmonicSum", unfollowed := true, recurses := true, apart := false }
def FnExactHarmonicSumSaid : Prop := fnExactHarmonicSumRow.holds Try.pinned (OpenSpec.ofChange fnExactHarmonicSumSpec)

/-- ITS FALSE NEIGHBOUR: 'it returns false'. Refute it at one input. -/
def fnExactHarmonicSumWrong : ChangeSpec := { name := "fnExactHarmonicSum", fn := fun _ => fun
  | [d] => { results := [.lit (.bool false)], args := [d] }
  | _ => none }
def FnExactHarmonicSumWrongFalsely : Prop := fnExactHarmonicSumRow.holds Try.pinned (OpenSpec.ofChange fnExactHarmonicSumWrong)

/-- 'laws.FnExactOddHarmonicSum': WHATEVER THE INPUT: true; the input reads as it did. -/
def fnExactOddHarmonicSumSpec : ChangeSpec := { name := "fnExactOddHarmonicSum", fn := fun _ => fun
  | [d] => { results := [.lit (.bool true)], args := [d] }
  | _ => none }
def fnExactOddHarmonicSumRow : OpenClaim := { program := "ytlfbnogkbdgnaaa", sum := "db409d14fa479a860a8776fbd50d76234c455bdf1f5dac6e451d256d6b318fa9", func := "loop.example/g01258/laws.FnExactOddHarmonicSum", spec := "fnExactOddHarmonicSum", unfollowed := true, recurses := true, apart := false }
def FnExactOddHarmonicSumSaid : Prop := fnExactOddHarmonicSumRow.holds Try.pinned (OpenSpec.ofChange fnExactOddHarmonicSumSpec)

/-- ITS FALSE NEIGHBOUR: 'it returns false'. Refute it at one input. -/
def fnExactOddHarmonicSumWrong : ChangeSpec := { name := "fnExactOddHarmonicSum", fn := fun _ => fun
  | [d] => { results := [.lit (.bool false)], args := [d] }
  | _ => none }
def FnExactOddHarmonicSumWrongFalsely : Prop := fnExactOddHarmonicSumRow.holds Try.pinned (OpenSpec.ofChange fnExactOddHarmonicSumWrong)

/-- 'laws.FnExactHarmonicCount': WHATEVER THE INPUT: true; the input reads as it did. -/
def fnExactHarmonicCountSpec : ChangeSpec := { name := "fnExactHarmonicCount", fn := fun _ => fun
  | [d] => { results := [.lit (.bool true)], args := [d] }
  | _ => none }
def fnExactHarmonicCountRow : OpenClaim := { program := "ytlfbnogkbdgnaaa", sum := "db409d14fa479a860a8776fbd50d76234c455bdf1f5dac6e451d256d6b318fa9", func := "loop.example/g01258/laws.FnExactHarmonicCount", spec := "fnExactHarmonicCount", unfollowed := true, recurses := true, apart := false }
def FnExactHarmonicCountSaid : Prop := fnExactHarmonicCountRow.holds Try.pinned (OpenSpec.ofChange fnExactHarmonicCountSpec)

/-- ITS FALSE NEIGHBOUR: 'it returns false'. Refute it at one input. -/
def fnExactHarmonicCountWrong : ChangeSpec := { name := "fnExactHarmonicCount", fn := fun _ => fun
  | [d] => { results := [.lit (.bool false)], args := [d] }
  | _ => none }
def FnExactHarmonicCountWrongFalsely : Prop := fnExactHarmonicCountRow.holds Try.pinned (OpenSpec.ofChange fnExactHarmonicCountWrong)

/-- 'laws.FnExactOddHarmonicCount': WHATEVER THE INPUT: true; the input reads as it did. -/
def fnExactOddHarmonicCountSpec : ChangeSpec := { name := "fnExactOddHarmonicCount", fn := fun _ => fun
  | [d] => { results := [.lit (.bool true)], args := [d] }
  | _ => none }
def fnExactOddHarmonicCountRow : OpenClaim := { program := "ytlfbnogkbdgnaaa", sum := "db409d14fa479a860a8776fbd50d76234c455bdf1f5dac6e451d256d6b318fa9", func := "loop.example/g01258/laws.FnExactOddHarmonicCount", spec := "fnExactOddHarmonicCount", unfollowed := true, recurses := true, apart := false }
def FnExactOddHarmonicCountSaid : Prop := fnExactOddHarmonicCountRow.holds Try.pinned (OpenSpec.ofChange fnExactOddHarmonicCountSpec)

/-- ITS FALSE NEIGHBOUR: 'it returns false'. Refute it at one input. -/
def fnExactOddHarmonicCountWrong : ChangeSpec := { name := "fnExactOddHarmonicCount", fn := fun _ => fun
  | [d] => { results := [.lit (.bool false)], args := [d] }
  | _ => none }
def FnExactOddHarmonicCountWrongFalsely : Prop := fnExactOddHarmonicCountRow.holds Try.pinned (OpenSpec.ofChange fnExactOddHarmonicCountWrong)

/-- 'laws.FnExactUnitParts': WHATEVER THE INPUT: true; the input reads as it did. -/
def fnExactUnitPartsSpec : ChangeSpec := { name := "fnExactUnitParts", fn := fun _ => fun
  | [d] => { results := [.lit (.bool true)], args := [d] }
  | _ => none }
def fnExactUnitPartsRow : OpenClaim := { program := "ytlfbnogkbdgnaaa", sum := "db409d14fa479a860a8776fbd50d76234c455bdf1f5dac6e451d256d6b318fa9", func := "loop.example/g01258/laws.FnExactUnitParts", spec := "fnExactUnitParts", unfollowed := true, recurses := true, apart := false }
def FnExactUnitPartsSaid : Prop := fnExactUnitPartsRow.holds Try.pinned (OpenSpec.ofChange fnExactUnitPartsSpec)

/-- ITS FALSE NEIGHBOUR: 'it returns false'. Refute it at one input. -/
def fnExactUnitPartsWrong : ChangeSpec := { name := "fnExactUnitParts", fn := fun _ => fun
  | [d] => { results := [.lit (.bool false)], args := [d] }
  | _ => none }
def FnExactUnitPartsWrongFalsely : Prop := fnExactUnitPartsRow.holds Try.pinned (OpenSpec.ofChange fnExactUnitPartsWrong)

/-- 'laws.FnExactSteppedSum': WHATEVER THE INPUT: true; the input reads as it did. -/
def fnExactSteppedSumSpec : ChangeSpec := { name := "fnExactSteppedSum", fn := fun _ => fun
  | [d1, d2, d3] => { results := [.lit (.bool true)], args := [d1, d2, d3] }
  | _ => none }
def fnExactSteppedSumRow : OpenClaim := { program := "ytlfbnogkbdgnaaa", sum := "db409d14fa479a860a8776fbd50d76234c455bdf1f5dac6e451d256d6b318fa9", func := "loop.example/g01258/laws.FnExactSteppedSum", spec := "fnExactSteppedSum", unfollowed := true, recurses := true, apart := false }
def FnExactSteppedSumSaid : Prop := fnExactSteppedSumRow.holds Try.pinned (OpenSpec.ofChange fnExactSteppedSumSpec)

/-- ITS FALSE NEIGHBOUR: 'it returns false'. Refute it at one input. -/
def fnExactSteppedSumWrong : ChangeSpec := { name := "fnExactSteppedSum", fn := fun _ => fun
  | [d1, d2, d3] => { results := [.lit (.bool false)], args := [d1, d2, d3] }
  | _ => none }
def FnExactSteppedSumWrongFalsely : Prop := fnExactSteppedSumRow.holds Try.pinned (OpenSpec.ofChange fnExactSteppedSumWrong)

/- THE SECOND FORM. 'bulk': how many values and letters a reading holds, each counted each time it is reached (what is shared counts as often as it is met; a slice's spare places count too). A statement '..UptoSaid' is the law's where the arguments, and the package variables that the reading takes, are together of bulk at most 1048576: NARROWER than '..Said'. Prove '..Said' where nothing that the law and all that it calls make is longer than what came in: it says more and counts as full. Else prove '..UptoSaid'. A law counts once. -/
mutual
def uptoBulk {H : Type} : DataW H → Nat
  | .lit (.string bytes) => bytes.length + 1
  | .lit _ => 1
  | .nil => 1
  | .ptr d => uptoBulk d + 1
  | .slice elems spare => uptoBulkAll elems + uptoBulkAll spare + 1
  | .agg parts => uptoBulkAll parts + 1
  | .iface _ d => uptoBulk d + 1
  | .map entries => uptoBulkEntries entries + 1
  | .held _ => 1
def uptoBulkAll {H : Type} : List (DataW H) → Nat
  | [] => 0
  | d :: r => uptoBulk d + uptoBulkAll r
def uptoBulkEntries {H : Type} : List (Lit × DataW H) → Nat
  | [] => 0
  | x :: r => uptoBulkEntry x + uptoBulkEntries r
def uptoBulkEntry {H : Type} : Lit × DataW H → Nat
  | (.string bytes, d) => bytes.length + uptoBulk d + 1
  | (_, d) => uptoBulk d + 1
 end
def uptoSmall : (H : Type) → List (DataW H) → Bool := fun _ ds => decide (uptoBulkAll ds ≤ 1048576)
def OpenSpec.upto (s : _root_.Go.ChangeSpec) : _root_.Go.OpenSpec := { _root_.Go.OpenSpec.ofChange s with cond := some uptoSmall }

/-- 'laws.FnExactIsAmount', WHERE WHAT IT READS IS OF BULK AT MOST 1048576: true; the input reads as it did. -/
def fnExactIsAmountUptoRow : OpenClaim := { program := "ytlfbnogkbdgnaaa", sum := "db409d14fa479a860a8776fbd50d76234c455bdf1f5dac6e451d256d6b318fa9", func := "loop.example/g01258/laws.FnExactIsAmount", spec := "fnExactIsAmount", apart := false, narrowed := true }
def FnExactIsAmountUptoSaid : Prop := fnExactIsAmountUptoRow.holds Try.pinned (OpenSpec.upto fnExactIsAmountSpec)

/-- 'laws.FnExactMakeAmount', WHERE WHAT IT READS IS OF BULK AT MOST 1048576: true; the input reads as it did. -/
def fnExactMakeAmountUptoRow : OpenClaim := { program := "ytlfbnogkbdgnaaa", sum := "db409d14fa479a860a8776fbd50d76234c455bdf1f5dac6e451d256d6b318fa9", func := "loop.example/g01258/laws.FnExactMakeAmount", spec := "fnExactMakeAmount", apart := false, narrowed := true }
def FnExactMakeAmountUptoSaid : Prop := fnExactMakeAmountUptoRow.holds Try.pinned (OpenSpec.upto fnExactMakeAmountSpec)

/-- 'laws.FnExactAddAmounts', WHERE WHAT IT READS IS OF BULK AT MOST 1048576: true; the input reads as it did. -/
def fnExactAddAmountsUptoRow : OpenClaim := { program := "ytlfbnogkbdgnaaa", sum := "db409d14fa479a860a8776fbd50d76234c455bdf1f5dac6e451d256d6b318fa9", func := "loop.example/g01258/laws.FnExactAddAmounts", spec := "fnExactAddAmounts", unfollowed := true, recurses := true, apart := false, narrowed := true }
def FnExactAddAmountsUptoSaid : Prop := fnExactAddAmountsUptoRow.holds Try.pinned (OpenSpec.upto fnExactAddAmountsSpec)

/-- 'laws.FnExactLessAmount', WHERE WHAT IT READS IS OF BULK AT MOST 1048576: true; the input reads as it did. -/
def fnExactLessAmountUptoRow : OpenClaim := { program := "ytlfbnogkbdgnaaa", sum := "db409d14fa479a860a8776fbd50d76234c455bdf1f5dac6e451d256d6b318fa9", func := "loop.example/g01258/laws.FnExactLessAmount", spec := "fnExactLessAmount", unfollowed := true, recurses := true, apart := false, narrowed := true }
def FnExactLessAmountUptoSaid : Prop := fnExactLessAmountUptoRow.holds Try.pinned (OpenSpec.upto fnExactLessAmountSpec)

/-- 'laws.FnExactTimesAmount', WHERE WHAT IT READS IS OF BULK AT MOST 1048576: true; the input reads as it did. -/
def fnExactTimesAmountUptoRow : OpenClaim := { program := "ytlfbnogkbdgnaaa", sum := "db409d14fa479a860a8776fbd50d76234c455bdf1f5dac6e451d256d6b318fa9", func := "loop.example/g01258/laws.FnExactTimesAmount", spec := "fnExactTimesAmount", unfollowed := true, recurses := true, apart := false, narrowed := true }
def FnExactTimesAmountUptoSaid : Prop := fnExactTimesAmountUptoRow.holds Try.pinned (OpenSpec.upto fnExactTimesAmountSpec)

/-- 'laws.FnExactPartAmount', WHERE WHAT IT READS IS OF BULK AT MOST 1048576: true; the input reads as it did. -/
def fnExactPartAmountUptoRow : OpenClaim := { program := "ytlfbnogkbdgnaaa", sum := "db409d14fa479a860a8776fbd50d76234c455bdf1f5dac6e451d256d6b318fa9", func := "loop.example/g01258/laws.FnExactPartAmount", spec := "fnExactPartAmount", unfollowed := true, recurses := true, apart := false, narrowed := true }
def FnExactPartAmountUptoSaid : Prop := fnExactPartAmountUptoRow.holds Try.pinned (OpenSpec.upto fnExactPartAmountSpec)

/-- 'laws.FnExactCompareAmounts', WHERE WHAT IT READS IS OF BULK AT MOST 1048576: true; the input reads as it did. -/
def fnExactCompareAmountsUptoRow : OpenClaim := { program := "ytlfbnogkbdgnaaa", sum := "db409d14fa479a860a8776fbd50d76234c455bdf1f5dac6e451d256d6b318fa9", func := "loop.example/g01258/laws.FnExactCompareAmounts", spec := "fnExactCompareAmounts", apart := false, narrowed := true }
def FnExactCompareAmountsUptoSaid : Prop := fnExactCompareAmountsUptoRow.holds Try.pinned (OpenSpec.upto fnExactCompareAmountsSpec)

/-- 'laws.FnExactWholePart', WHERE WHAT IT READS IS OF BULK AT MOST 1048576: true; the input reads as it did. -/
def fnExactWholePartUptoRow : OpenClaim := { program := "ytlfbnogkbdgnaaa", sum := "db409d14fa479a860a8776fbd50d76234c455bdf1f5dac6e451d256d6b318fa9", func := "loop.example/g01258/laws.FnExactWholePart", spec := "fnExactWholePart", apart := false, narrowed := true }
def FnExactWholePartUptoSaid : Prop := fnExactWholePartUptoRow.holds Try.pinned (OpenSpec.upto fnExactWholePartSpec)

/-- 'laws.FnExactSumAmounts', WHERE WHAT IT READS IS OF BULK AT MOST 1048576: true; the input reads as it did. -/
def fnExactSumAmountsUptoRow : OpenClaim := { program := "ytlfbnogkbdgnaaa", sum := "db409d14fa479a860a8776fbd50d76234c455bdf1f5dac6e451d256d6b318fa9", func := "loop.example/g01258/laws.FnExactSumAmounts", spec := "fnExactSumAmounts", unfollowed := true, recurses := true, apart := false, narrowed := true }
def FnExactSumAmountsUptoSaid : Prop := fnExactSumAmountsUptoRow.holds Try.pinned (OpenSpec.upto fnExactSumAmountsSpec)

/-- 'laws.FnExactHarmonicSum', WHERE WHAT IT READS IS OF BULK AT MOST 1048576: true; the input reads as it did. -/
def fnExactHarmonicSumUptoRow : OpenClaim := { program := "ytlfbnogkbdgnaaa", sum := "db409d14fa479a860a8776fbd50d76234c455bdf1f5dac6e451d256d6b318fa9", func := "loop.example/g01258/laws.FnExactHarmonicSum", spec := "fnExactHarmonicSum", unfollowed := true, recurses := true, apart := false, narrowed := true }
def FnExactHarmonicSumUptoSaid : Prop := fnExactHarmonicSumUptoRow.holds Try.pinned (OpenSpec.upto fnExactHarmonicSumSpec)

/-- 'laws.FnExactOddHarmonicSum', WHERE WHAT IT READS IS OF BULK AT MOST 1048576: true; the input reads as it did. -/
def fnExactOddHarmonicSumUptoRow : OpenClaim := { program := "ytlfbnogkbdgnaaa", sum := "db409d14fa479a860a8776fbd50d76234c455bdf1f5dac6e451d256d6b318fa9", func := "loop.example/g01258/laws.FnExactOddHarmonicSum", spec := "fnExactOddHarmonicSum", unfollowed := true, recurses := true, apart := false, narrowed := true }
def FnExactOddHarmonicSumUptoSaid : Prop := fnExactOddHarmonicSumUptoRow.holds Try.pinned (OpenSpec.upto fnExactOddHarmonicSumSpec)

/-- 'laws.FnExactHarmonicCount', WHERE WHAT IT READS IS OF BULK AT MOST 1048576: true; the input reads as it did. -/
def fnExactHarmonicCountUptoRow : OpenClaim := { program := "ytlfbnogkbdgnaaa", sum := "db409d14fa479a860a8776fbd50d76234c455bdf1f5dac6e451d256d6b318fa9", func := "loop.example/g01258/laws.FnExactHarmonicCount", spec := "fnExactHarmonicCount", unfollowed := true, recurses := true, apart := false, narrowed := true }
def FnExactHarmonicCountUptoSaid : Prop := fnExactHarmonicCountUptoRow.holds Try.pinned (OpenSpec.upto fnExactHarmonicCountSpec)

/-- 'laws.FnExactOddHarmonicCount', WHERE WHAT IT READS IS OF BULK AT MOST 1048576: true; the input reads as it did. -/
def fnExactOddHarmonicCountUptoRow : OpenClaim := { program := "ytlfbnogkbdgnaaa", sum := "db409d14fa479a860a8776fbd50d76234c455bdf1f5dac6e451d256d6b318fa9", func := "loop.example/g01258/laws.FnExactOddHarmonicCount", spec := "fnExactOddHarmonicCount", unfollowed := true, recurses := true, apart := false, narrowed := true }
def FnExactOddHarmonicCountUptoSaid : Prop := fnExactOddHarmonicCountUptoRow.holds Try.pinned (OpenSpec.upto fnExactOddHarmonicCountSpec)

/-- 'laws.FnExactUnitParts', WHERE WHAT IT READS IS OF BULK AT MOST 1048576: true; the input reads as it did. -/
def fnExactUnitPartsUptoRow : OpenClaim := { program := "ytlfbnogkbdgnaaa", sum := "db409d14fa479a860a8776fbd50d76234c455bdf1f5dac6e451d256d6b318fa9", func := "loop.example/g01258/laws.FnExactUnitParts", spec := "fnExactUnitParts", unfollowed := true, recurses := true, apart := false, narrowed := true }
def FnExactUnitPartsUptoSaid : Prop := fnExactUnitPartsUptoRow.holds Try.pinned (OpenSpec.upto fnExactUnitPartsSpec)

/-- 'laws.FnExactSteppedSum', WHERE WHAT IT READS IS OF BULK AT MOST 1048576: true; the input reads as it did. -/
def fnExactSteppedSumUptoRow : OpenClaim := { program := "ytlfbnogkbdgnaaa", sum := "db409d14fa479a860a8776fbd50d76234c455bdf1f5dac6e451d256d6b318fa9", func := "loop.example/g01258/laws.FnExactSteppedSum", spec := "fnExactSteppedSum", unfollowed := true, recurses := true, apart := false, narrowed := true }
def FnExactSteppedSumUptoSaid : Prop := fnExactSteppedSumUptoRow.holds Try.pinned (OpenSpec.upto fnExactSteppedSumSpec)

end Rows
end Go.Proofs.Ytlfbnogkbdgnaaa
