/-
  No cell of these rows narrows 'for every input' (looked for: loops, veiled, ifaces, maps, wideKeys, modest, calm, conditions, laid).
  DERIVED. THE GIVEN ROWS OF THIS SEAT. 3 by the template 'for every input the law returns true; each argument reads behind the call as it read before'; 0 by the template 'total and deterministic' (their statements: YtgpbkjakmbmccaaTotals.lean).
  GIVEN WITH THE SEED: the statements are not yours to turn. If you find one false, say at which input.
  Laid BY PROGRAM, IN A SANDBOX (cutbox-rows.mjs): the forced cells as the released guide's own fill.sh prints them over the translation 4fe348c100df0220… (all of the seat's roots in one cut). By AI agents, Wed Nov 11 2026. No macro, syntax, notation, axiom, sorry.
-/
import Derived.Test.YtgpbkjakmbmccaaChecked
import GoSem.Claim
import GoSem.ClaimJoined
import GoSem.ClaimMapViews
import Derived.JoinedTies
import Derived.KernelRfl
namespace Go.Proofs.Ytgpbkjakmbmccaa
/- THE CELL 'sum', in the pinned program and in every row, IS THE sha256 OF THE DUMP (.gsa) THAT YtgpbkjakmbmccaaProg.lean LOADS. Nothing in Lean hashes anything: it is a label: what it is worth is what the hold of that sum in a sandbox is worth. -/
noncomputable def Try.pinned : Pinned := { name := "ytgpbkjakmbmccaa", sum := "4fe348c100df02202f9ecbfe3d4d60dad7d2daf26bea252038416dfd6a6e4c09", checked := Try.checked }
namespace Rows
def none {H : Type} : Left H := { results := [], args := [] }

/-- 'laws.FnJeepsAreCamels': WHATEVER THE INPUT: true; the input reads as it did. -/
def fnJeepsAreCamelsSpec : ChangeSpec := { name := "fnJeepsAreCamels", fn := fun _ => fun
  | [d1, d2] => { results := [.lit (.bool true)], args := [d1, d2] }
  | _ => none }
def fnJeepsAreCamelsRow : OpenClaim := { program := "ytgpbkjakmbmccaa", sum := "4fe348c100df02202f9ecbfe3d4d60dad7d2daf26bea252038416dfd6a6e4c09", func := "loop.example/g01258/laws.FnJeepsAreCamels", spec := "fnJeepsAreCamels", unfollowed := true, recurses := true, apart := false }
def FnJeepsAreCamelsSaid : Prop := fnJeepsAreCamelsRow.holds Try.pinned (OpenSpec.ofChange fnJeepsAreCamelsSpec)

/-- ITS FALSE NEIGHBOUR: 'it returns false'. Refute it at one input. -/
def fnJeepsAreCamelsWrong : ChangeSpec := { name := "fnJeepsAreCamels", fn := fun _ => fun
  | [d1, d2] => { results := [.lit (.bool false)], args := [d1, d2] }
  | _ => none }
def FnJeepsAreCamelsWrongFalsely : Prop := fnJeepsAreCamelsRow.holds Try.pinned (OpenSpec.ofChange fnJeepsAreCamelsWrong)

/-- 'laws.FnJeepsBring': WHATEVER THE INPUT: true; the input reads as it did. -/
def fnJeepsBringSpec : ChangeSpec := { name := "fnJeepsBring", fn := fun _ => fun
  | [d1, d2] => { results := [.lit (.bool true)], args := [d1, d2] }
  | _ => none }
def fnJeepsBringRow : OpenClaim := { program := "ytgpbkjakmbmccaa", sum := "4fe348c100df02202f9ecbfe3d4d60dad7d2daf26bea252038416dfd6a6e4c09", func := "loop.example/g01258/laws.FnJeepsBring", spec := "fnJeepsBring", unfollowed := true, recurses := true, apart := false }
def FnJeepsBringSaid : Prop := fnJeepsBringRow.holds Try.pinned (OpenSpec.ofChange fnJeepsBringSpec)

/-- ITS FALSE NEIGHBOUR: 'it returns false'. Refute it at one input. -/
def fnJeepsBringWrong : ChangeSpec := { name := "fnJeepsBring", fn := fun _ => fun
  | [d1, d2] => { results := [.lit (.bool false)], args := [d1, d2] }
  | _ => none }
def FnJeepsBringWrongFalsely : Prop := fnJeepsBringRow.holds Try.pinned (OpenSpec.ofChange fnJeepsBringWrong)

/-- 'laws.FnHelpersTurn': WHATEVER THE INPUT: true; the input reads as it did. -/
def fnHelpersTurnSpec : ChangeSpec := { name := "fnHelpersTurn", fn := fun _ => fun
  | [d1, d2] => { results := [.lit (.bool true)], args := [d1, d2] }
  | _ => none }
def fnHelpersTurnRow : OpenClaim := { program := "ytgpbkjakmbmccaa", sum := "4fe348c100df02202f9ecbfe3d4d60dad7d2daf26bea252038416dfd6a6e4c09", func := "loop.example/g01258/laws.FnHelpersTurn", spec := "fnHelpersTurn", unfollowed := true, recurses := true, apart := false }
def FnHelpersTurnSaid : Prop := fnHelpersTurnRow.holds Try.pinned (OpenSpec.ofChange fnHelpersTurnSpec)

/-- ITS FALSE NEIGHBOUR: 'it returns false'. Refute it at one input. -/
def fnHelpersTurnWrong : ChangeSpec := { name := "fnHelpersTurn", fn := fun _ => fun
  | [d1, d2] => { results := [.lit (.bool false)], args := [d1, d2] }
  | _ => none }
def FnHelpersTurnWrongFalsely : Prop := fnHelpersTurnRow.holds Try.pinned (OpenSpec.ofChange fnHelpersTurnWrong)

/- THE SECOND FORM. 'bulk': how many values and letters a reading holds, each counted each time it is reached (what is shared counts as often as it is met; a slice's spare places count too). A statement '..UptoSaid' is the law's where the arguments, and the package variables that the reading takes, are together of bulk at most 1048576: NARROWER than '..Said'. Prove '..Said' where nothing that the law and all that it calls make is longer than what came in: it says more and counts as full. Else prove '..UptoSaid'. A law counts once. -/
mutual
def uptoBulk {H : Type} : DataW H → Nat
  | .lit (.string bytes) => bytes.length + 1
  | .lit _ => 1
  | .nil => 1
  | .ptr d => uptoBulk d + 1
  | .slice elems spare => uptoBulkAll elems + uptoBulkAll spare + 1
  | .agg parts => uptoBulkAll parts + 1
  | .iface _ d => uptoBulk d + 1
  | .map entries => uptoBulkEntries entries + 1
  | .held _ => 1
def uptoBulkAll {H : Type} : List (DataW H) → Nat
  | [] => 0
  | d :: r => uptoBulk d + uptoBulkAll r
def uptoBulkEntries {H : Type} : List (Lit × DataW H) → Nat
  | [] => 0
  | x :: r => uptoBulkEntry x + uptoBulkEntries r
def uptoBulkEntry {H : Type} : Lit × DataW H → Nat
  | (.string bytes, d) => bytes.length + uptoBulk d + 1
  | (_, d) => uptoBulk d + 1
 end
def uptoSmall : (H : Type) → List (DataW H) → Bool := fun _ ds => decide (uptoBulkAll ds ≤ 1048576)
def OpenSpec.upto (s : _root_.Go.ChangeSpec) : _root_.Go.OpenSpec := { _root_.Go.OpenSpec.ofChange s with cond := some uptoSmall }

/-- 'laws.FnJeepsAreCamels', WHERE WHAT IT READS IS OF BULK AT MOST 1048576: true; the input reads as it did. -/
def fnJeepsAreCamelsUptoRow : OpenClaim := { program := "ytgpbkjakmbmccaa", sum := "4fe348c100df02202f9ecbfe3d4d60dad7d2daf26bea252038416dfd6a6e4c09", func := "loop.example/g01258/laws.FnJeepsAreCamels", spec := "fnJeepsAreCamels", unfollowed := true, recurses := true, apart := false, narrowed := true }
def FnJeepsAreCamelsUptoSaid : Prop := fnJeepsAreCamelsUptoRow.holds Try.pinned (OpenSpec.upto fnJeepsAreCamelsSpec)

/-- 'laws.FnJeepsBring', WHERE WHAT IT READS IS OF BULK AT MOST 1048576: true; the input reads as it did. -/
def fnJeepsBringUptoRow : OpenClaim := { program := "ytgpbkjakmbmccaa", sum := "4fe348c100df02202f9ecbfe3d4d60dad7d2daf26bea252038416dfd6a6e4c09", func := "loop.example/g01258/laws.FnJeepsBring", spec := "fnJeepsBring", unfollowed := true, recurses := true, apart := false, narrowed := true }
def FnJeepsBringUptoSaid : Prop := fnJeepsBringUptoRow.holds Try.pinned (OpenSpec.upto fnJeepsBringSpec)

/-- 'laws.FnHelpersTurn', WHERE WHAT IT READS IS OF BULK AT MOST 1048576: true; the input reads as it did. -/
def fnHelpersTurnUptoRow : OpenClaim := { program := "ytgpbkjakmbmccaa", sum := "4fe348c100df02202f9ecbfe3d4d60dad7d2daf26bea252038416dfd6a6e4c09", func := "loop.example/g01258/laws.FnHelpersTurn", spec := "fnHelpersTurn", unfollowed := true, recurses := true, apart := false, narrowed := true }
def FnHelpersTurnUptoSaid : Prop := fnHelpersTurnUptoRow.holds Try.pinned (OpenSpec.upto fnHelpersTurnSpec)

end Rows
end Go.Proofs.Ytgpbkjakmbmccaa
