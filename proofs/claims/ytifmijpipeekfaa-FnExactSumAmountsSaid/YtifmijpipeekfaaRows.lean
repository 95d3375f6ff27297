/-
  No cell of these rows narrows 'for every input' (looked for: loops, veiled, ifaces, maps, wideKeys, modest, calm, conditions, laid).
  DERIVED. THE GIVEN ROWS OF THIS SEAT. 15 by the template 'for every input the law returns true; each argument reads behind the call as it read before'; 0 by the template 'total and deterministic' (their statements: YtifmijpipeekfaaTotals.lean).
  GIVEN WITH THE SEED: the statements are not yours to turn. If you find one false, say at which input.
  Laid BY PROGRAM, IN A SANDBOX (cutbox-rows.mjs): the forced cells as the released guide's own fill.sh prints them over the translation ca3d1a1b33b4f177… (all of the seat's roots in one cut). By AI agents, Wed Nov 11 2026. No macro, syntax, notation, axiom, sorry.
-/
import Derived.Test.YtifmijpipeekfaaChecked
import GoSem.Claim
import GoSem.ClaimJoined
import GoSem.ClaimMapViews
import Derived.JoinedTies
import Derived.KernelRfl
namespace Go.Proofs.Ytifmijpipeekfaa
/- THE CELL 'sum', in the pinned program and in every row, IS THE sha256 OF THE DUMP (.gsa) THAT YtifmijpipeekfaaProg.lean LOADS. Nothing in Lean hashes anything: it is a label: what it is worth is what the hold of that sum in a sandbox is worth. -/
noncomputable def Try.pinned : Pinned := { name := "ytifmijpipeekfaa", sum := "ca3d1a1b33b4f177a9c3b301c4d75a890347bc93535a24ab7227f64f1643e21b", checked := Try.checked }
namespace Rows
def none {H : Type} : Left H := { results := [], args := [] }

/-- 'laws.FnExactSumAmounts': WHATEVER THE INPUT: true; the input reads as it did. -/
def fnExactSumAmountsSpec : ChangeSpec := { name := "fnExactSumAmounts", fn := fun _ => fun
  | [d] => { results := [.lit (.bool true)], args := [d] }
  | _ => none }
def fnExactSumAmountsRow : OpenClaim := { program := "ytifmijpipeekfaa", sum := "ca3d1a1b33b4f177a9c3b301c4d75a890347bc93535a24ab7227f64f1643e21b", func := "loop.example/g01258/laws.FnExactSumAmounts", spec := "fnExactSumAmounts", unfollowed := true, recurses := true, apart := false }
def FnExactSumAmountsSaid : Prop := fnExactSumAmountsRow.holds Try.pinned (OpenSpec.ofChange fnExactSumAmountsSpec)

/-- ITS FALSE NEIGHBOUR: 'it returns false'. Refute it at one input. -/
def fnExactSumAmountsWrong : ChangeSpec := { name := "fnExactSumAmounts", fn := fun _ => fun
  | [d] => { results := [.lit (.bool false)], args := [d] }
  | _ => none }
def FnExactSumAmountsWrongFalsely : Prop := fnExactSumAmountsRow.holds Try.pinned (OpenSpec.ofChange fnExactSumAmountsWrong)

/-- 'laws.FnExactFarthestOut': WHATEVER THE INPUT: true; the input reads as it did. -/
def fnExactFarthestOutSpec : ChangeSpec := { name := "fnExactFarthestOut", fn := fun _ => fun
  | [d] => { results := [.lit (.bool true)], args := [d] }
  | _ => none }
def fnExactFarthestOutRow : OpenClaim := { program := "ytifmijpipeekfaa", sum := "ca3d1a1b33b4f177a9c3b301c4d75a890347bc93535a24ab7227f64f1643e21b", func := "loop.example/g01258/laws.FnExactFarthestOut", spec := "fnExactFarthestOut", unfollowed := true, recurses := true, apart := false }
def FnExactFarthestOutSaid : Prop := fnExactFarthestOutRow.holds Try.pinned (OpenSpec.ofChange fnExactFarthestOutSpec)

/-- ITS FALSE NEIGHBOUR: 'it returns false'. Refute it at one input. -/
def fnExactFarthestOutWrong : ChangeSpec := { name := "fnExactFarthestOut", fn := fun _ => fun
  | [d] => { results := [.lit (.bool false)], args := [d] }
  | _ => none }
def FnExactFarthestOutWrongFalsely : Prop := fnExactFarthestOutRow.holds Try.pinned (OpenSpec.ofChange fnExactFarthestOutWrong)

/-- 'laws.FnExactFarthestBack': WHATEVER THE INPUT: true; the input reads as it did. -/
def fnExactFarthestBackSpec : ChangeSpec := { name := "fnExactFarthestBack", fn := fun _ => fun
  | [d] => { results := [.lit (.bool true)], args := [d] }
  | _ => none }
def fnExactFarthestBackRow : OpenClaim := { program := "ytifmijpipeekfaa", sum := "ca3d1a1b33b4f177a9c3b301c4d75a890347bc93535a24ab7227f64f1643e21b", func := "loop.example/g01258/laws.FnExactFarthestBack", spec := "fnExactFarthestBack", unfollowed := true, recurses := true, apart := false }
def FnExactFarthestBackSaid : Prop := fnExactFarthestBackRow.holds Try.pinned (OpenSpec.ofChange fnExactFarthestBackSpec)

/-- ITS FALSE NEIGHBOUR: 'it returns false'. Refute it at one input. -/
def fnExactFarthestBackWrong : ChangeSpec := { name := "fnExactFarthestBack", fn := fun _ => fun
  | [d] => { results := [.lit (.bool false)], args := [d] }
  | _ => none }
def FnExactFarthestBackWrongFalsely : Prop := fnExactFarthestBackRow.holds Try.pinned (OpenSpec.ofChange fnExactFarthestBackWrong)

/-- 'laws.FnExactFuelOut': WHATEVER THE INPUT: true; the input reads as it did. -/
def fnExactFuelOutSpec : ChangeSpec := { name := "fnExactFuelOut", fn := fun _ => fun
  | [d] => { results := [.lit (.bool true)], args := [d] }
  | _ => none }
def fnExactFuelOutRow : OpenClaim := { program := "ytifmijpipeekfaa", sum := "ca3d1a1b33b4f177a9c3b301c4d75a890347bc93535a24ab7227f64f1643e21b", func := "loop.example/g01258/laws.FnExactFuelOut", spec := "fnExactFuelOut", unfollowed := true, recurses := true, apart := false }
def FnExactFuelOutSaid : Prop := fnExactFuelOutRow.holds Try.pinned (OpenSpec.ofChange fnExactFuelOutSpec)

/-- ITS FALSE NEIGHBOUR: 'it returns false'. Refute it at one input. -/
def fnExactFuelOutWrong : ChangeSpec := { name := "fnExactFuelOut", fn := fun _ => fun
  | [d] => { results := [.lit (.bool false)], args := [d] }
  | _ => none }
def FnExactFuelOutWrongFalsely : Prop := fnExactFuelOutRow.holds Try.pinned (OpenSpec.ofChange fnExactFuelOutWrong)

/-- 'laws.FnExactFuelBack': WHATEVER THE INPUT: true; the input reads as it did. -/
def fnExactFuelBackSpec : ChangeSpec := { name := "fnExactFuelBack", fn := fun _ => fun
  | [d] => { results := [.lit (.bool true)], args := [d] }
  | _ => none }
def fnExactFuelBackRow : OpenClaim := { program := "ytifmijpipeekfaa", sum := "ca3d1a1b33b4f177a9c3b301c4d75a890347bc93535a24ab7227f64f1643e21b", func := "loop.example/g01258/laws.FnExactFuelBack", spec := "fnExactFuelBack", unfollowed := true, recurses := true, apart := false }
def FnExactFuelBackSaid : Prop := fnExactFuelBackRow.holds Try.pinned (OpenSpec.ofChange fnExactFuelBackSpec)

/-- ITS FALSE NEIGHBOUR: 'it returns false'. Refute it at one input. -/
def fnExactFuelBackWrong : ChangeSpec := { name := "fnExactFuelBack", fn := fun _ => fun
  | [d] => { results := [.lit (.bool false)], args := [d] }
  | _ => none }
def FnExactFuelBackWrongFalsely : Prop := fnExactFuelBackRow.holds Try.pinned (OpenSpec.ofChange fnExactFuelBackWrong)

/-- 'laws.FnExactDepotsOut': WHATEVER THE INPUT: true; the input reads as it did. -/
def fnExactDepotsOutSpec : ChangeSpec := { name := "fnExactDepotsOut", fn := fun _ => fun
  | [d] => { results := [.lit (.bool true)], args := [d] }
  | _ => none }
def fnExactDepotsOutRow : OpenClaim := { program := "ytifmijpipeekfaa", sum := "ca3d1a1b33b4f177a9c3b301c4d75a890347bc93535a24ab7227f64f1643e21b", func := "loop.example/g01258/laws.FnExactDepotsOut", spec := "fnExactDepotsOut", unfollowed := true, recurses := true, apart := false }
def FnExactDepotsOutSaid : Prop := fnExactDepotsOutRow.holds Try.pinned (OpenSpec.ofChange fnExactDepotsOutSpec)

/-- ITS FALSE NEIGHBOUR: 'it returns false'. Refute it at one input. -/
def fnExactDepotsOutWrong : ChangeSpec := { name := "fnExactDepotsOut", fn := fun _ => fun
  | [d] => { results := [.lit (.bool false)], args := [d] }
  | _ => none }
def FnExactDepotsOutWrongFalsely : Prop := fnExactDepotsOutRow.holds Try.pinned (OpenSpec.ofChange fnExactDepotsOutWrong)

/-- 'laws.FnExactDepotsBack': WHATEVER THE INPUT: true; the input reads as it did. -/
def fnExactDepotsBackSpec : ChangeSpec := { name := "fnExactDepotsBack", fn := fun _ => fun
  | [d] => { results := [.lit (.bool true)], args := [d] }
  | _ => none }
def fnExactDepotsBackRow : OpenClaim := { program := "ytifmijpipeekfaa", sum := "ca3d1a1b33b4f177a9c3b301c4d75a890347bc93535a24ab7227f64f1643e21b", func := "loop.example/g01258/laws.FnExactDepotsBack", spec := "fnExactDepotsBack", unfollowed := true, recurses := true, apart := false }
def FnExactDepotsBackSaid : Prop := fnExactDepotsBackRow.holds Try.pinned (OpenSpec.ofChange fnExactDepotsBackSpec)

/-- ITS FALSE NEIGHBOUR: 'it returns false'. Refute it at one input. -/
def fnExactDepotsBackWrong : ChangeSpec := { name := "fnExactDepotsBack", fn := fun _ => fun
  | [d] => { results := [.lit (.bool false)], args := [d] }
  | _ => none }
def FnExactDepotsBackWrongFalsely : Prop := fnExactDepotsBackRow.holds Try.pinned (OpenSpec.ofChange fnExactDepotsBackWrong)

/-- 'laws.FnExactTripsOut': WHATEVER THE INPUT: true; the input reads as it did. -/
def fnExactTripsOutSpec : ChangeSpec := { name := "fnExactTripsOut", fn := fun _ => fun
  | [d] => { results := [.lit (.bool true)], args := [d] }
  | _ => none }
def fnExactTripsOutRow : OpenClaim := { program := "ytifmijpipeekfaa", sum := "ca3d1a1b33b4f177a9c3b301c4d75a890347bc93535a24ab7227f64f1643e21b", func := "loop.example/g01258/laws.FnExactTripsOut", spec := "fnExactTripsOut", apart := false }
def FnExactTripsOutSaid : Prop := fnExactTripsOutRow.holds Try.pinned (OpenSpec.ofChange fnExactTripsOutSpec)

/-- ITS FALSE NEIGHBOUR: 'it returns false'. Refute it at one input. -/
def fnExactTripsOutWrong : ChangeSpec := { name := "fnExactTripsOut", fn := fun _ => fun
  | [d] => { results := [.lit (.bool false)], args := [d] }
  | _ => none }
def FnExactTripsOutWrongFalsely : Prop := fnExactTripsOutRow.holds Try.pinned (OpenSpec.ofChange fnExactTripsOutWrong)

/-- 'laws.FnExactCarriesOut': WHATEVER THE INPUT: true; the input reads as it did. -/
def fnExactCarriesOutSpec : ChangeSpec := { name := "fnExactCarriesOut", fn := fun _ => fun
  | [d] => { results := [.lit (.bool true)], args := [d] }
  | _ => none }
def fnExactCarriesOutRow : OpenClaim := { program := "ytifmijpipeekfaa", sum := "ca3d1a1b33b4f177a9c3b301c4d75a890347bc93535a24ab7227f64f1643e21b", func := "loop.example/g01258/laws.FnExactCarriesOut", spec := "fnExactCarriesOut", unfollowed := true, recurses := true, apart := false }
def FnExactCarriesOutSaid : Prop := fnExactCarriesOutRow.holds Try.pinned (OpenSpec.ofChange fnExactCarriesOutSpec)

/-- ITS FALSE NEIGHBOUR: 'it returns false'. Refute it at one input. -/
def fnExactCarriesOutWrong : ChangeSpec := { name := "fnExactCarriesOut", fn := fun _ => fun
  | [d] => { results := [.lit (.bool false)], args := [d] }
  | _ => none }
def FnExactCarriesOutWrongFalsely : Prop := fnExactCarriesOutRow.holds Try.pinned (OpenSpec.ofChange fnExactCarriesOutWrong)

/-- 'laws.FnExactLastPartOut': WHATEVER THE INPUT: true; the input reads as it did. -/
def fnExactLastPartOutSpec : ChangeSpec := { name := "fnExactLastPartOut", fn := fun _ => fun
  | [d] => { results := [.lit (.bool true)], args := [d] }
  | _ => none }
def fnExactLastPartOutRow : OpenClaim := { program := "ytifmijpipeekfaa", sum := "ca3d1a1b33b4f177a9c3b301c4d75a890347bc93535a24ab7227f64f1643e21b", func := "loop.example/g01258/laws.FnExactLastPartOut", spec := "fnExactLastPartOut", unfollowed := true, recurses := true, apart := false }
def FnExactLastPartOutSaid : Prop := fnExactLastPartOutRow.holds Try.pinned (OpenSpec.ofChange fnExactLastPartOutSpec)

/-- ITS FALSE NEIGHBOUR: 'it returns false'. Refute it at one input. -/
def fnExactLastPartOutWrong : ChangeSpec := { name := "fnExactLastPartOut", fn := fun _ => fun
  | [d] => { results := [.lit (.bool false)], args := [d] }
  | _ => none }
def FnExactLastPartOutWrongFalsely : Prop := fnExactLastPartOutRow.holds Try.pinned (OpenSpec.ofChange fnExactLastPartOutWrong)

/-- 'laws.FnExactGainOut': WHATEVER THE INPUT: true; the input reads as it did. -/
def fnExactGainOutSpec : ChangeSpec := { name := "fnExactGainOut", fn := fun _ => fun
  | [d] => { results := [.lit (.bool true)], args := [d] }
  | _ => none }
def fnExactGainOutRow : OpenClaim := { program := "ytifmijpipeekfaa", sum := "ca3d1a1b33b4f177a9c3b301c4d75a890347bc93535a24ab7227f64f1643e21b", func := "loop.example/g01258/laws.FnExactGainOut", spec := "fnExactGainOut", unfollowed := true, recurses := true, apart := false }
def FnExactGainOutSaid : Prop := fnExactGainOutRow.holds Try.pinned (OpenSpec.ofChange fnExactGainOutSpec)

/-- ITS FALSE NEIGHBOUR: 'it returns false'. Refute it at one input. -/
def fnExactGainOutWrong : ChangeSpec := { name := "fnExactGainOut", fn := fun _ => fun
  | [d] => { results := [.lit (.bool false)], args := [d] }
  | _ => none }
def FnExactGainOutWrongFalsely : Prop := fnExactGainOutRow.holds Try.pinned (OpenSpec.ofChange fnExactGainOutWrong)

/-- 'laws.FnExactGainBack': WHATEVER THE INPUT: true; the input reads as it did. -/
def fnExactGainBackSpec : ChangeSpec := { name := "fnExactGainBack", fn := fun _ => fun
  | [d] => { results := [.lit (.bool true)], args := [d] }
  | _ => none }
def fnExactGainBackRow : OpenClaim := { program := "ytifmijpipeekfaa", sum := "ca3d1a1b33b4f177a9c3b301c4d75a890347bc93535a24ab7227f64f1643e21b", func := "loop.example/g01258/laws.FnExactGainBack", spec := "fnExactGainBack", unfollowed := true, recurses := true, apart := false }
def FnExactGainBackSaid : Prop := fnExactGainBackRow.holds Try.pinned (OpenSpec.ofChange fnExactGainBackSpec)

/-- ITS FALSE NEIGHBOUR: 'it returns false'. Refute it at one input. -/
def fnExactGainBackWrong : ChangeSpec := { name := "fnExactGainBack", fn := fun _ => fun
  | [d] => { results := [.lit (.bool false)], args := [d] }
  | _ => none }
def FnExactGainBackWrongFalsely : Prop := fnExactGainBackRow.holds Try.pinned (OpenSpec.ofChange fnExactGainBackWrong)

/-- 'laws.FnExactCanCross': WHATEVER THE INPUT: true; the input reads as it did. -/
def fnExactCanCrossSpec : ChangeSpec := { name := "fnExactCanCross", fn := fun _ => fun
  | [d1, d2] => { results := [.lit (.bool true)], args := [d1, d2] }
  | _ => none }
def fnExactCanCrossRow : OpenClaim := { program := "ytifmijpipeekfaa", sum := "ca3d1a1b33b4f177a9c3b301c4d75a890347bc93535a24ab7227f64f1643e21b", func := "loop.example/g01258/laws.FnExactCanCross", spec := "fnExactCanCross", unfollowed := true, recurses := true, apart := false }
def FnExactCanCrossSaid : Prop := fnExactCanCrossRow.holds Try.pinned (OpenSpec.ofChange fnExactCanCrossSpec)

/-- ITS FALSE NEIGHBOUR: 'it returns false'. Refute it at one input. -/
def fnExactCanCrossWrong : ChangeSpec := { name := "fnExactCanCross", fn := fun _ => fun
  | [d1, d2] => { results := [.lit (.bool false)], args := [d1, d2] }
  | _ => none }
def FnExactCanCrossWrongFalsely : Prop := fnExactCanCrossRow.holds Try.pinned (OpenSpec.ofChange fnExactCanCrossWrong)

/-- 'laws.FnExactCanReturn': WHATEVER THE INPUT: true; the input reads as it did. -/
def fnExactCanReturnSpec : ChangeSpec := { name := "fnExactCanReturn", fn := fun _ => fun
  | [d1, d2] => { results := [.lit (.bool true)], args := [d1, d2] }
  | _ => none }
def fnExactCanReturnRow : OpenClaim := { program := "ytifmijpipeekfaa", sum := "ca3d1a1b33b4f177a9c3b301c4d75a890347bc93535a24ab7227f64f1643e21b", func := "loop.example/g01258/laws.FnExactCanReturn", spec := "fnExactCanReturn", unfollowed := true, recurses := true, apart := false }
def FnExactCanReturnSaid : Prop := fnExactCanReturnRow.holds Try.pinned (OpenSpec.ofChange fnExactCanReturnSpec)

/-- ITS FALSE NEIGHBOUR: 'it returns false'. Refute it at one input. -/
def fnExactCanReturnWrong : ChangeSpec := { name := "fnExactCanReturn", fn := fun _ => fun
  | [d1, d2] => { results := [.lit (.bool false)], args := [d1, d2] }
  | _ => none }
def FnExactCanReturnWrongFalsely : Prop := fnExactCanReturnRow.holds Try.pinned (OpenSpec.ofChange fnExactCanReturnWrong)

/-- 'laws.FnExactDrivenOut': WHATEVER THE INPUT: true; the input reads as it did. -/
def fnExactDrivenOutSpec : ChangeSpec := { name := "fnExactDrivenOut", fn := fun _ => fun
  | [d] => { results := [.lit (.bool true)], args := [d] }
  | _ => none }
def fnExactDrivenOutRow : OpenClaim := { program := "ytifmijpipeekfaa", sum := "ca3d1a1b33b4f177a9c3b301c4d75a890347bc93535a24ab7227f64f1643e21b", func := "loop.example/g01258/laws.FnExactDrivenOut", spec := "fnExactDrivenOut", apart := false }
def FnExactDrivenOutSaid : Prop := fnExactDrivenOutRow.holds Try.pinned (OpenSpec.ofChange fnExactDrivenOutSpec)

/-- ITS FALSE NEIGHBOUR: 'it returns false'. Refute it at one input. -/
def fnExactDrivenOutWrong : ChangeSpec := { name := "fnExactDrivenOut", fn := fun _ => fun
  | [d] => { results := [.lit (.bool false)], args := [d] }
  | _ => none }
def FnExactDrivenOutWrongFalsely : Prop := fnExactDrivenOutRow.holds Try.pinned (OpenSpec.ofChange fnExactDrivenOutWrong)

/- THE SECOND FORM. 'bulk': how many values and letters a reading holds, each counted each time it is reached (what is shared counts as often as it is met; a slice's spare places count too). A statement '..UptoSaid' is the law's where the arguments, and the package variables that the reading takes, are together of bulk at most 1048576: NARROWER than '..Said'. Prove '..Said' where nothing that the law and all that it calls make is longer than what came in: it says more and counts as full. Else prove '..UptoSaid'. A law counts once. -/
mutual
def uptoBulk {H : Type} : DataW H → Nat
  | .lit (.string bytes) => bytes.length + 1
  | .lit _ => 1
  | .nil => 1
  | .ptr d => uptoBulk d + 1
  | .slice elems spare => uptoBulkAll elems + uptoBulkAll spare + 1
  | .agg parts => uptoBulkAll parts + 1
  | .iface _ d => uptoBulk d + 1
  | .map entries => uptoBulkEntries entries + 1
  | .held _ => 1
def uptoBulkAll {H : Type} : List (DataW H) → Nat
  | [] => 0
  | d :: r => uptoBulk d + uptoBulkAll r
def uptoBulkEntries {H : Type} : List (Lit × DataW H) → Nat
  | [] => 0
  | x :: r => uptoBulkEntry x + uptoBulkEntries r
def uptoBulkEntry {H : Type} : Lit × DataW H → Nat
  | (.string bytes, d) => bytes.length + uptoBulk d + 1
  | (_, d) => uptoBulk d + 1
 end
def uptoSmall : (H : Type) → List (DataW H) → Bool := fun _ ds => decide (uptoBulkAll ds ≤ 1048576)
def OpenSpec.upto (s : _root_.Go.ChangeSpec) : _root_.Go.OpenSpec := { _root_.Go.OpenSpec.ofChange s with cond := some uptoSmall }

/-- 'laws.FnExactSumAmounts', WHERE WHAT IT READS IS OF BULK AT MOST 1048576: true; the input reads as it did. -/
def fnExactSumAmountsUptoRow : OpenClaim := { program := "ytifmijpipeekfaa", sum := "ca3d1a1b33b4f177a9c3b301c4d75a890347bc93535a24ab7227f64f1643e21b", func := "loop.example/g01258/laws.FnExactSumAmounts", spec := "fnExactSumAmounts", unfollowed := true, recurses := true, apart := false, narrowed := true }
def FnExactSumAmountsUptoSaid : Prop := fnExactSumAmountsUptoRow.holds Try.pinned (OpenSpec.upto fnExactSumAmountsSpec)

/-- 'laws.FnExactFarthestOut', WHERE WHAT IT READS IS OF BULK AT MOST 1048576: true; the input reads as it did. -/
def fnExactFarthestOutUptoRow : OpenClaim := { program := "ytifmijpipeekfaa", sum := "ca3d1a1b33b4f177a9c3b301c4d75a890347bc93535a24ab7227f64f1643e21b", func := "loop.example/g01258/laws.FnExactFarthestOut", spec := "fnExactFarthestOut", unfollowed := true, recurses := true, apart := false, narrowed := true }
def FnExactFarthestOutUptoSaid : Prop := fnExactFarthestOutUptoRow.holds Try.pinned (OpenSpec.upto fnExactFarthestOutSpec)

/-- 'laws.FnExactFarthestBack', WHERE WHAT IT READS IS OF BULK AT MOST 1048576: true; the input reads as it did. -/
def fnExactFarthestBackUptoRow : OpenClaim := { program := "ytifmijpipeekfaa", sum := "ca3d1a1b33b4f177a9c3b301c4d75a890347bc93535a24ab7227f64f1643e21b", func := "loop.example/g01258/laws.FnExactFarthestBack", spec := "fnExactFarthestBack", unfollowed := true, recurses := true, apart := false, narrowed := true }
def FnExactFarthestBackUptoSaid : Prop := fnExactFarthestBackUptoRow.holds Try.pinned (OpenSpec.upto fnExactFarthestBackSpec)

/-- 'laws.FnExactFuelOut', WHERE WHAT IT READS IS OF BULK AT MOST 1048576: true; the input reads as it did. -/
def fnExactFuelOutUptoRow : OpenClaim := { program := "ytifmijpipeekfaa", sum := "ca3d1a1b33b4f177a9c3b301c4d75a890347bc93535a24ab7227f64f1643e21b", func := "loop.example/g01258/laws.FnExactFuelOut", spec := "fnExactFuelOut", unfollowed := true, recurses := true, apart := false, narrowed := true }
def FnExactFuelOutUptoSaid : Prop := fnExactFuelOutUptoRow.holds Try.pinned (OpenSpec.upto fnExactFuelOutSpec)

/-- 'laws.FnExactFuelBack', WHERE WHAT IT READS IS OF BULK AT MOST 1048576: true; the input reads as it did. -/
def fnExactFuelBackUptoRow : OpenClaim := { program := "ytifmijpipeekfaa", sum := "ca3d1a1b33b4f177a9c3b301c4d75a890347bc93535a24ab7227f64f1643e21b", func := "loop.example/g01258/laws.FnExactFuelBack", spec := "fnExactFuelBack", unfollowed := true, recurses := true, apart := false, narrowed := true }
def FnExactFuelBackUptoSaid : Prop := fnExactFuelBackUptoRow.holds Try.pinned (OpenSpec.upto fnExactFuelBackSpec)

/-- 'laws.FnExactDepotsOut', WHERE WHAT IT READS IS OF BULK AT MOST 1048576: true; the input reads as it did. -/
def fnExactDepotsOutUptoRow : OpenClaim := { program := "ytifmijpipeekfaa", sum := "ca3d1a1b33b4f177a9c3b301c4d75a890347bc93535a24ab7227f64f1643e21b", func := "loop.example/g01258/laws.FnExactDepotsOut", spec := "fnExactDepotsOut", unfollowed := true, recurses := true, apart := false, narrowed := true }
def FnExactDepotsOutUptoSaid : Prop := fnExactDepotsOutUptoRow.holds Try.pinned (OpenSpec.upto fnExactDepotsOutSpec)

/-- 'laws.FnExactDepotsBack', WHERE WHAT IT READS IS OF BULK AT MOST 1048576: true; the input reads as it did. -/
def fnExactDepotsBackUptoRow : OpenClaim := { program := "ytifmijpipeekfaa", sum := "ca3d1a1b33b4f177a9c3b301c4d75a890347bc93535a24ab7227f64f1643e21b", func := "loop.example/g01258/laws.FnExactDepotsBack", spec := "fnExactDepotsBack", unfollowed := true, recurses := true, apart := false, narrowed := true }
def FnExactDepotsBackUptoSaid : Prop := fnExactDepotsBackUptoRow.holds Try.pinned (OpenSpec.upto fnExactDepotsBackSpec)

/-- 'laws.FnExactTripsOut', WHERE WHAT IT READS IS OF BULK AT MOST 1048576: true; the input reads as it did. -/
def fnExactTripsOutUptoRow : OpenClaim := { program := "ytifmijpipeekfaa", sum := "ca3d1a1b33b4f177a9c3b301c4d75a890347bc93535a24ab7227f64f1643e21b", func := "loop.example/g01258/laws.FnExactTripsOut", spec := "fnExactTripsOut", apart := false, narrowed := true }
def FnExactTripsOutUptoSaid : Prop := fnExactTripsOutUptoRow.holds Try.pinned (OpenSpec.upto fnExactTripsOutSpec)

/-- 'laws.FnExactCarriesOut', WHERE WHAT IT READS IS OF BULK AT MOST 1048576: true; the input reads as it did. -/
def fnExactCarriesOutUptoRow : OpenClaim := { program := "ytifmijpipeekfaa", sum := "ca3d1a1b33b4f177a9c3b301c4d75a890347bc93535a24ab7227f64f1643e21b", func := "loop.example/g01258/laws.FnExactCarriesOut", spec := "fnExactCarriesOut", unfollowed := true, recurses := true, apart := false, narrowed := true }
def FnExactCarriesOutUptoSaid : Prop := fnExactCarriesOutUptoRow.holds Try.pinned (OpenSpec.upto fnExactCarriesOutSpec)

/-- 'laws.FnExactLastPartOut', WHERE WHAT IT READS IS OF BULK AT MOST 1048576: true; the input reads as it did. -/
def fnExactLastPartOutUptoRow : OpenClaim := { program := "ytifmijpipeekfaa", sum := "ca3d1a1b33b4f177a9c3b301c4d75a890347bc93535a24ab7227f64f1643e21b", func := "loop.example/g01258/laws.FnExactLastPartOut", spec := "fnExactLastPartOut", unfollowed := true, recurses := true, apart := false, narrowed := true }
def FnExactLastPartOutUptoSaid : Prop := fnExactLastPartOutUptoRow.holds Try.pinned (OpenSpec.upto fnExactLastPartOutSpec)

/-- 'laws.FnExactGainOut', WHERE WHAT IT READS IS OF BULK AT MOST 1048576: true; the input reads as it did. -/
def fnExactGainOutUptoRow : OpenClaim := { program := "ytifmijpipeekfaa", sum := "ca3d1a1b33b4f177a9c3b301c4d75a890347bc93535a24ab7227f64f1643e21b", func := "loop.example/g01258/laws.FnExactGainOut", spec := "fnExactGainOut", unfollowed := true, recurses := true, apart := false, narrowed := true }
def FnExactGainOutUptoSaid : Prop := fnExactGainOutUptoRow.holds Try.pinned (OpenSpec.upto fnExactGainOutSpec)

/-- 'laws.FnExactGainBack', WHERE WHAT IT READS IS OF BULK AT MOST 1048576: true; the input reads as it did. -/
def fnExactGainBackUptoRow : OpenClaim := { program := "ytifmijpipeekfaa", sum := "ca3d1a1b33b4f177a9c3b301c4d75a890347bc93535a24ab7227f64f1643e21b", func := "loop.example/g01258/laws.FnExactGainBack", spec := "fnExactGainBack", unfollowed := true, recurses := true, apart := false, narrowed := true }
def FnExactGainBackUptoSaid : Prop := fnExactGainBackUptoRow.holds Try.pinned (OpenSpec.upto fnExactGainBackSpec)

/-- 'laws.FnExactCanCross', WHERE WHAT IT READS IS OF BULK AT MOST 1048576: true; the input reads as it did. -/
def fnExactCanCrossUptoRow : OpenClaim := { program := "ytifmijpipeekfaa", sum := "ca3d1a1b33b4f177a9c3b301c4d75a890347bc93535a24ab7227f64f1643e21b", func := "loop.example/g01258/laws.FnExactCanCross", spec := "fnExactCanCross", unfollowed := true, recurses := true, apart := false, narrowed := true }
def FnExactCanCrossUptoSaid : Prop := fnExactCanCrossUptoRow.holds Try.pinned (OpenSpec.upto fnExactCanCrossSpec)

/-- 'laws.FnExactCanReturn', WHERE WHAT IT READS IS OF BULK AT MOST 1048576: true; the input reads as it did. -/
def fnExactCanReturnUptoRow : OpenClaim := { program := "ytifmijpipeekfaa", sum := "ca3d1a1b33b4f177a9c3b301c4d75a890347bc93535a24ab7227f64f1643e21b", func := "loop.example/g01258/laws.FnExactCanReturn", spec := "fnExactCanReturn", unfollowed := true, recurses := true, apart := false, narrowed := true }
def FnExactCanReturnUptoSaid : Prop := fnExactCanReturnUptoRow.holds Try.pinned (OpenSpec.upto fnExactCanReturnSpec)

/-- 'laws.FnExactDrivenOut', WHERE WHAT IT READS IS OF BULK AT MOST 1048576: true; the input reads as it did. -/
def fnExactDrivenOutUptoRow : OpenClaim := { program := "ytifmijpipeekfaa", sum := "ca3d1a1b33b4f177a9c3b301c4d75a890347bc93535a24ab7227f64f1643e21b", func := "loop.example/g01258/laws.FnExactDrivenOut", spec := "fnExactDrivenOut", apart := false, narrowed := true }
def FnExactDrivenOutUptoSaid : Prop := fnExactDrivenOutUptoRow.holds Try.pinned (OpenSpec.upto fnExactDrivenOutSpec)

end Rows
end Go.Proofs.Ytifmijpipeekfaa
