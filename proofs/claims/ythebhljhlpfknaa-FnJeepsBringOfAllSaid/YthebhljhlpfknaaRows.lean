/-
  No cell of these rows narrows 'for every input' (looked for: loops, veiled, ifaces, maps, wideKeys, modest, calm, conditions, laid).
  DERIVED. THE GIVEN ROWS OF THIS SEAT. 5 by the template 'for every input the law returns true; each argument reads behind the call as it read before'; 0 by the template 'total and deterministic' (their statements: YthebhljhlpfknaaTotals.lean).
  GIVEN WITH THE SEED: the statements are not yours to turn. If you find one false, say at which input.
  Laid BY PROGRAM, IN A SANDBOX (cutbox-rows.mjs): the forced cells as the released guide's own fill.sh prints them over the translation 98f09b5dcfaa5f29… (all of the seat's roots in one cut). By AI agents, Wed Nov 11 2026. No macro, syntax, notation, axiom, sorry.
-/
import Derived.Test.YthebhljhlpfknaaChecked
import GoSem.Claim
import GoSem.ClaimJoined
import GoSem.ClaimMapViews
import Derived.JoinedTies
import Derived.KernelRfl
namespace Go.Proofs.Ythebhljhlpfknaa
/- THE CELL 'sum', in the pinned program and in every row, IS THE sha256 OF THE DUMP (.gsa) THAT YthebhljhlpfknaaProg.lean LOADS. Nothing in Lean hashes anything: it is a label: what it is worth is what the hold of that sum in a sandbox is worth. -/
noncomputable def Try.pinned : Pinned := { name := "ythebhljhlpfknaa", sum := "98f09b5dcfaa5f293cab9e335ef4e4b7689a47c189ffee9be464f31e0eda8aa9", checked := Try.checked }
namespace Rows
def none {H : Type} : Left H := { results := [], args := [] }

/-- 'laws.FnJeepsAreCamelsOfAll': WHATEVER THE INPUT: true; the input reads as it did. -/
def fnJeepsAreCamelsOfAllSpec : ChangeSpec := { name := "fnJeepsAreCamelsOfAll", fn := fun _ => fun
  | [d] => { results := [.lit (.bool true)], args := [d] }
  | _ => none }
def fnJeepsAreCamelsOfAllRow : OpenClaim := { program := "ythebhljhlpfknaa", sum := "98f09b5dcfaa5f293cab9e335ef4e4b7689a47c189ffee9be464f31e0eda8aa9", func := "loop.example/g01258/laws.FnJeepsAreCamelsOfAll", spec := "fnJeepsAreCamelsOfAll", unfollowed := true, recurses := true, apart := false }
def FnJeepsAreCamelsOfAllSaid : Prop := fnJeepsAreCamelsOfAllRow.holds Try.pinned (OpenSpec.ofChange fnJeepsAreCamelsOfAllSpec)

/-- ITS FALSE NEIGHBOUR: 'it returns false'. Refute it at one input. -/
def fnJeepsAreCamelsOfAllWrong : ChangeSpec := { name := "fnJeepsAreCamelsOfAll", fn := fun _ => fun
  | [d] => { results := [.lit (.bool false)], args := [d] }
  | _ => none }
def FnJeepsAreCamelsOfAllWrongFalsely : Prop := fnJeepsAreCamelsOfAllRow.holds Try.pinned (OpenSpec.ofChange fnJeepsAreCamelsOfAllWrong)

/-- 'laws.FnJeepsBringOfAll': WHATEVER THE INPUT: true; the input reads as it did. -/
def fnJeepsBringOfAllSpec : ChangeSpec := { name := "fnJeepsBringOfAll", fn := fun _ => fun
  | [d] => { results := [.lit (.bool true)], args := [d] }
  | _ => none }
def fnJeepsBringOfAllRow : OpenClaim := { program := "ythebhljhlpfknaa", sum := "98f09b5dcfaa5f293cab9e335ef4e4b7689a47c189ffee9be464f31e0eda8aa9", func := "loop.example/g01258/laws.FnJeepsBringOfAll", spec := "fnJeepsBringOfAll", unfollowed := true, recurses := true, apart := false }
def FnJeepsBringOfAllSaid : Prop := fnJeepsBringOfAllRow.holds Try.pinned (OpenSpec.ofChange fnJeepsBringOfAllSpec)

/-- ITS FALSE NEIGHBOUR: 'it returns false'. Refute it at one input. -/
def fnJeepsBringOfAllWrong : ChangeSpec := { name := "fnJeepsBringOfAll", fn := fun _ => fun
  | [d] => { results := [.lit (.bool false)], args := [d] }
  | _ => none }
def FnJeepsBringOfAllWrongFalsely : Prop := fnJeepsBringOfAllRow.holds Try.pinned (OpenSpec.ofChange fnJeepsBringOfAllWrong)

/-- 'laws.FnHelpersTurnOfAll': WHATEVER THE INPUT: true; the input reads as it did. -/
def fnHelpersTurnOfAllSpec : ChangeSpec := { name := "fnHelpersTurnOfAll", fn := fun _ => fun
  | [d] => { results := [.lit (.bool true)], args := [d] }
  | _ => none }
def fnHelpersTurnOfAllRow : OpenClaim := { program := "ythebhljhlpfknaa", sum := "98f09b5dcfaa5f293cab9e335ef4e4b7689a47c189ffee9be464f31e0eda8aa9", func := "loop.example/g01258/laws.FnHelpersTurnOfAll", spec := "fnHelpersTurnOfAll", unfollowed := true, recurses := true, apart := false }
def FnHelpersTurnOfAllSaid : Prop := fnHelpersTurnOfAllRow.holds Try.pinned (OpenSpec.ofChange fnHelpersTurnOfAllSpec)

/-- ITS FALSE NEIGHBOUR: 'it returns false'. Refute it at one input. -/
def fnHelpersTurnOfAllWrong : ChangeSpec := { name := "fnHelpersTurnOfAll", fn := fun _ => fun
  | [d] => { results := [.lit (.bool false)], args := [d] }
  | _ => none }
def FnHelpersTurnOfAllWrongFalsely : Prop := fnHelpersTurnOfAllRow.holds Try.pinned (OpenSpec.ofChange fnHelpersTurnOfAllWrong)

/-- 'laws.FnExactFirstDesk': WHATEVER THE INPUT: true; the input reads as it did. -/
def fnExactFirstDeskSpec : ChangeSpec := { name := "fnExactFirstDesk", fn := fun _ => fun
  | [] => { results := [.lit (.bool true)], args := [] }
  | _ => none }
def fnExactFirstDeskRow : OpenClaim := { program := "ythebhljhlpfknaa", sum := "98f09b5dcfaa5f293cab9e335ef4e4b7689a47c189ffee9be464f31e0eda8aa9", func := "loop.example/g01258/laws.FnExactFirstDesk", spec := "fnExactFirstDesk", apart := false }
def FnExactFirstDeskSaid : Prop := fnExactFirstDeskRow.holds Try.pinned (OpenSpec.ofChange fnExactFirstDeskSpec)

/-- ITS FALSE NEIGHBOUR: 'it returns false'. Refute it at one input. -/
def fnExactFirstDeskWrong : ChangeSpec := { name := "fnExactFirstDesk", fn := fun _ => fun
  | [] => { results := [.lit (.bool false)], args := [] }
  | _ => none }
def FnExactFirstDeskWrongFalsely : Prop := fnExactFirstDeskRow.holds Try.pinned (OpenSpec.ofChange fnExactFirstDeskWrong)

/-- 'laws.FnExactIsDesk': WHATEVER THE INPUT: true; the input reads as it did. -/
def fnExactIsDeskSpec : ChangeSpec := { name := "fnExactIsDesk", fn := fun _ => fun
  | [d] => { results := [.lit (.bool true)], args := [d] }
  | _ => none }
def fnExactIsDeskRow : OpenClaim := { program := "ythebhljhlpfknaa", sum := "98f09b5dcfaa5f293cab9e335ef4e4b7689a47c189ffee9be464f31e0eda8aa9", func := "loop.example/g01258/laws.FnExactIsDesk", spec := "fnExactIsDesk", apart := false }
def FnExactIsDeskSaid : Prop := fnExactIsDeskRow.holds Try.pinned (OpenSpec.ofChange fnExactIsDeskSpec)

/-- ITS FALSE NEIGHBOUR: 'it returns false'. Refute it at one input. -/
def fnExactIsDeskWrong : ChangeSpec := { name := "fnExactIsDesk", fn := fun _ => fun
  | [d] => { results := [.lit (.bool false)], args := [d] }
  | _ => none }
def FnExactIsDeskWrongFalsely : Prop := fnExactIsDeskRow.holds Try.pinned (OpenSpec.ofChange fnExactIsDeskWrong)

/- THE SECOND FORM. 'bulk': how many values and letters a reading holds, each counted each time it is reached (what is shared counts as often as it is met; a slice's spare places count too). A statement '..UptoSaid' is the law's where the arguments, and the package variables that the reading takes, are together of bulk at most 1048576: NARROWER than '..Said'. Prove '..Said' where nothing that the law and all that it calls make is longer than what came in: it says more and counts as full. Else prove '..UptoSaid'. A law counts once. -/
mutual
def uptoBulk {H : Type} : DataW H → Nat
  | .lit (.string bytes) => bytes.length + 1
  | .lit _ => 1
  | .nil => 1
  | .ptr d => uptoBulk d + 1
  | .slice elems spare => uptoBulkAll elems + uptoBulkAll spare + 1
  | .agg parts => uptoBulkAll parts + 1
  | .iface _ d => uptoBulk d + 1
  | .map entries => uptoBulkEntries entries + 1
  | .held _ => 1
def uptoBulkAll {H : Type} : List (DataW H) → Nat
  | [] => 0
  | d :: r => uptoBulk d + uptoBulkAll r
def uptoBulkEntries {H : Type} : List (Lit × DataW H) → Nat
  | [] => 0
  | x :: r => uptoBulkEntry x + uptoBulkEntries r
def uptoBulkEntry {H : Type} : Lit × DataW H → Nat
  | (.string bytes, d) => bytes.length + uptoBulk d + 1
  | (_, d) => uptoBulk d + 1
 end
def uptoSmall : (H : Type) → List (DataW H) → Bool := fun _ ds => decide (uptoBulkAll ds ≤ 1048576)
def OpenSpec.upto (s : _root_.Go.ChangeSpec) : _root_.Go.OpenSpec := { _root_.Go.OpenSpec.ofChange s with cond := some uptoSmall }

/-- 'laws.FnJeepsAreCamelsOfAll', WHERE WHAT IT READS IS OF BULK AT MOST 1048576: true; the input reads as it did. -/
def fnJeepsAreCamelsOfAllUptoRow : OpenClaim := { program := "ythebhljhlpfknaa", sum := "98f09b5dcfaa5f293cab9e335ef4e4b7689a47c189ffee9be464f31e0eda8aa9", func := "loop.example/g01258/laws.FnJeepsAreCamelsOfAll", spec := "fnJeepsAreCamelsOfAll", unfollowed := true, recurses := true, apart := false, narrowed := true }
def FnJeepsAreCamelsOfAllUptoSaid : Prop := fnJeepsAreCamelsOfAllUptoRow.holds Try.pinned (OpenSpec.upto fnJeepsAreCamelsOfAllSpec)

/-- 'laws.FnJeepsBringOfAll', WHERE WHAT IT READS IS OF BULK AT MOST 1048576: true; the input reads as it did. -/
def fnJeepsBringOfAllUptoRow : OpenClaim := { program := "ythebhljhlpfknaa", sum := "98f09b5dcfaa5f293cab9e335ef4e4b7689a47c189ffee9be464f31e0eda8aa9", func := "loop.example/g01258/laws.FnJeepsBringOfAll", spec := "fnJeepsBringOfAll", unfollowed := true, recurses := true, apart := false, narrowed := true }
def FnJeepsBringOfAllUptoSaid : Prop := fnJeepsBringOfAllUptoRow.holds Try.pinned (OpenSpec.upto fnJeepsBringOfAllSpec)

/-- 'laws.FnHelpersTurnOfAll', WHERE WHAT IT READS IS OF BULK AT MOST 1048576: true; the input reads as it did. -/
def fnHelpersTurnOfAllUptoRow : OpenClaim := { program := "ythebhljhlpfknaa", sum := "98f09b5dcfaa5f293cab9e335ef4e4b7689a47c189ffee9be464f31e0eda8aa9", func := "loop.example/g01258/laws.FnHelpersTurnOfAll", spec := "fnHelpersTurnOfAll", unfollowed := true, recurses := true, apart := false, narrowed := true }
def FnHelpersTurnOfAllUptoSaid : Prop := fnHelpersTurnOfAllUptoRow.holds Try.pinned (OpenSpec.upto fnHelpersTurnOfAllSpec)

/-- 'laws.FnExactFirstDesk', WHERE WHAT IT READS IS OF BULK AT MOST 1048576: true; the input reads as it did. -/
def fnExactFirstDeskUptoRow : OpenClaim := { program := "ythebhljhlpfknaa", sum := "98f09b5dcfaa5f293cab9e335ef4e4b7689a47c189ffee9be464f31e0eda8aa9", func := "loop.example/g01258/laws.FnExactFirstDesk", spec := "fnExactFirstDesk", apart := false, narrowed := true }
def FnExactFirstDeskUptoSaid : Prop := fnExactFirstDeskUptoRow.holds Try.pinned (OpenSpec.upto fnExactFirstDeskSpec)

/-- 'laws.FnExactIsDesk', WHERE WHAT IT READS IS OF BULK AT MOST 1048576: true; the input reads as it did. -/
def fnExactIsDeskUptoRow : OpenClaim := { program := "ythebhljhlpfknaa", sum := "98f09b5dcfaa5f293cab9e335ef4e4b7689a47c189ffee9be464f31e0eda8aa9", func := "loop.example/g01258/laws.FnExactIsDesk", spec := "fnExactIsDesk", apart := false, narrowed := true }
def FnExactIsDeskUptoSaid : Prop := fnExactIsDeskUptoRow.holds Try.pinned (OpenSpec.upto fnExactIsDeskSpec)

end Rows
end Go.Proofs.Ythebhljhlpfknaa
