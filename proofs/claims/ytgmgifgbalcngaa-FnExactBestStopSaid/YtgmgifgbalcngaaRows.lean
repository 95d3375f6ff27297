/-
  No cell of these rows narrows 'for every input' (looked for: loops, veiled, ifaces, maps, wideKeys, modest, calm, conditions, laid).
  DERIVED. THE GIVEN ROWS OF THIS SEAT. 3 by the template 'for every input the law returns true; each argument reads behind the call as it read before'; 0 by the template 'total and deterministic' (their statements: YtgmgifgbalcngaaTotals.lean).
  GIVEN WITH THE SEED: the statements are not yours to turn. If you find one false, say at which input.
  Laid BY PROGRAM, IN A SANDBOX (cutbox-rows.mjs): the forced cells as the released guide's own fill.sh prints them over the translation de50c9d6c19680c1… (all of the seat's roots in one cut). By AI agents, Wed Nov 11 2026. No macro, syntax, notation, axiom, sorry.
-/
import Derived.Test.YtgmgifgbalcngaaChecked
import GoSem.Claim
import GoSem.ClaimJoined
import GoSem.ClaimMapViews
import Derived.JoinedTies
import Derived.KernelRfl
namespace Go.Proofs.Ytgmgifgbalcngaa
/- THE CELL 'sum', in the pinned program and in every row, IS THE sha256 OF THE DUMP (.gsa) THAT YtgmgifgbalcngaaProg.lean LOADS. Nothing in Lean hashes anything: it is a label: what it is worth is what the hold of that sum in a sandbox is worth. -/
noncomputable def Try.pinned : Pinned := { name := "ytgmgifgbalcngaa", sum := "de50c9d6c19680c128b5fa2b7dc70225135f43f913d29b924786ca9850bc9eac", checked := Try.checked }
namespace Rows
def none {H : Type} : Left H := { results := [], args := [] }

/-- 'laws.FnExactBestStop': WHATEVER THE INPUT: true; the input reads as it did. -/
def fnExactBestStopSpec : ChangeSpec := { name := "fnExactBestStop", fn := fun _ => fun
  | [d1, d2, d3, d4] => { results := [.lit (.bool true)], args := [d1, d2, d3, d4] }
  | _ => none }
def fnExactBestStopRow : OpenClaim := { program := "ytgmgifgbalcngaa", sum := "de50c9d6c19680c128b5fa2b7dc70225135f43f913d29b924786ca9850bc9eac", func := "loop.example/g01258/laws.FnExactBestStop", spec := "fnExactBestStop", unfollowed := true, recurses := true, apart := false }
def FnExactBestStopSaid : Prop := fnExactBestStopRow.holds Try.pinned (OpenSpec.ofChange fnExactBestStopSpec)

/-- ITS FALSE NEIGHBOUR: 'it returns false'. Refute it at one input. -/
def fnExactBestStopWrong : ChangeSpec := { name := "fnExactBestStop", fn := fun _ => fun
  | [d1, d2, d3, d4] => { results := [.lit (.bool false)], args := [d1, d2, d3, d4] }
  | _ => none }
def FnExactBestStopWrongFalsely : Prop := fnExactBestStopRow.holds Try.pinned (OpenSpec.ofChange fnExactBestStopWrong)

/-- 'laws.FnExactBestMarket': WHATEVER THE INPUT: true; the input reads as it did. -/
def fnExactBestMarketSpec : ChangeSpec := { name := "fnExactBestMarket", fn := fun _ => fun
  | [d1, d2, d3] => { results := [.lit (.bool true)], args := [d1, d2, d3] }
  | _ => none }
def fnExactBestMarketRow : OpenClaim := { program := "ytgmgifgbalcngaa", sum := "de50c9d6c19680c128b5fa2b7dc70225135f43f913d29b924786ca9850bc9eac", func := "loop.example/g01258/laws.FnExactBestMarket", spec := "fnExactBestMarket", unfollowed := true, recurses := true, apart := false }
def FnExactBestMarketSaid : Prop := fnExactBestMarketRow.holds Try.pinned (OpenSpec.ofChange fnExactBestMarketSpec)

/-- ITS FALSE NEIGHBOUR: 'it returns false'. Refute it at one input. -/
def fnExactBestMarketWrong : ChangeSpec := { name := "fnExactBestMarket", fn := fun _ => fun
  | [d1, d2, d3] => { results := [.lit (.bool false)], args := [d1, d2, d3] }
  | _ => none }
def FnExactBestMarketWrongFalsely : Prop := fnExactBestMarketRow.holds Try.pinned (OpenSpec.ofChange fnExactBestMarketWrong)

/-- 'laws.FnExactCampsLeft': WHATEVER THE INPUT: true; the input reads as it did. -/
def fnExactCampsLeftSpec : ChangeSpec := { name := "fnExactCampsLeft", fn := fun _ => fun
  | [d1, d2, d3] => { results := [.lit (.bool true)], args := [d1, d2, d3] }
  | _ => none }
def fnExactCampsLeftRow : OpenClaim := { program := "ytgmgifgbalcngaa", sum := "de50c9d6c19680c128b5fa2b7dc70225135f43f913d29b924786ca9850bc9eac", func := "loop.example/g01258/laws.FnExactCampsLeft", spec := "fnExactCampsLeft", unfollowed := true, recurses := true, apart := false }
def FnExactCampsLeftSaid : Prop := fnExactCampsLeftRow.holds Try.pinned (OpenSpec.ofChange fnExactCampsLeftSpec)

/-- ITS FALSE NEIGHBOUR: 'it returns false'. Refute it at one input. -/
def fnExactCampsLeftWrong : ChangeSpec := { name := "fnExactCampsLeft", fn := fun _ => fun
  | [d1, d2, d3] => { results := [.lit (.bool false)], args := [d1, d2, d3] }
  | _ => none }
def FnExactCampsLeftWrongFalsely : Prop := fnExactCampsLeftRow.holds Try.pinned (OpenSpec.ofChange fnExactCampsLeftWrong)

/- THE SECOND FORM. 'bulk': how many values and letters a reading holds, each counted each time it is reached (what is shared counts as often as it is met; a slice's spare places count too). A statement '..UptoSaid' is the law's where the arguments, and the package variables that the reading takes, are together of bulk at most 1048576: NARROWER than '..Said'. Prove '..Said' where nothing that the law and all that it calls make is longer than what came in: it says more and counts as full. Else prove '..UptoSaid'. A law counts once. -/
mutual
def uptoBulk {H : Type} : DataW H → Nat
  | .lit (.string bytes) => bytes.length + 1
  | .lit _ => 1
  | .nil => 1
  | .ptr d => uptoBulk d + 1
  | .slice elems spare => uptoBulkAll elems + uptoBulkAll spare + 1
  | .agg parts => uptoBulkAll parts + 1
  | .iface _ d => uptoBulk d + 1
  | .map entries => uptoBulkEntries entries + 1
  | .held _ => 1
def uptoBulkAll {H : Type} : List (DataW H) → Nat
  | [] => 0
  | d :: r => uptoBulk d + uptoBulkAll r
def uptoBulkEntries {H : Type} : List (Lit × DataW H) → Nat
  | [] => 0
  | x :: r => uptoBulkEntry x + uptoBulkEntries r
def uptoBulkEntry {H : Type} : Lit × DataW H → Nat
  | (.string bytes, d) => bytes.length + uptoBulk d + 1
  | (_, d) => uptoBulk d + 1
 end
def uptoSmall : (H : Type) → List (DataW H) → Bool := fun _ ds => decide (uptoBulkAll ds ≤ 1048576)
def OpenSpec.upto (s : _root_.Go.ChangeSpec) : _root_.Go.OpenSpec := { _root_.Go.OpenSpec.ofChange s with cond := some uptoSmall }

/-- 'laws.FnExactBestStop', WHERE WHAT IT READS IS OF BULK AT MOST 1048576: true; the input reads as it did. -/
def fnExactBestStopUptoRow : OpenClaim := { program := "ytgmgifgbalcngaa", sum := "de50c9d6c19680c128b5fa2b7dc70225135f43f913d29b924786ca9850bc9eac", func := "loop.example/g01258/laws.FnExactBestStop", spec := "fnExactBestStop", unfollowed := true, recurses := true, apart := false, narrowed := true }
def FnExactBestStopUptoSaid : Prop := fnExactBestStopUptoRow.holds Try.pinned (OpenSpec.upto fnExactBestStopSpec)

/-- 'laws.FnExactBestMarket', WHERE WHAT IT READS IS OF BULK AT MOST 1048576: true; the input reads as it did. -/
def fnExactBestMarketUptoRow : OpenClaim := { program := "ytgmgifgbalcngaa", sum := "de50c9d6c19680c128b5fa2b7dc70225135f43f913d29b924786ca9850bc9eac", func := "loop.example/g01258/laws.FnExactBestMarket", spec := "fnExactBestMarket", unfollowed := true, recurses := true, apart := false, narrowed := true }
def FnExactBestMarketUptoSaid : Prop := fnExactBestMarketUptoRow.holds Try.pinned (OpenSpec.upto fnExactBestMarketSpec)

/-- 'laws.FnExactCampsLeft', WHERE WHAT IT READS IS OF BULK AT MOST 1048576: true; the input reads as it did. -/
def fnExactCampsLeftUptoRow : OpenClaim := { program := "ytgmgifgbalcngaa", sum := "de50c9d6c19680c128b5fa2b7dc70225135f43f913d29b924786ca9850bc9eac", func := "loop.example/g01258/laws.FnExactCampsLeft", spec := "fnExactCampsLeft", unfollowed := true, recurses := true, apart := false, narrowed := true }
def FnExactCampsLeftUptoSaid : Prop := fnExactCampsLeftUptoRow.holds Try.pinned (OpenSpec.upto fnExactCampsLeftSpec)

end Rows
end Go.Proofs.Ytgmgifgbalcngaa
