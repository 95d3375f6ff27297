/-
  No cell of these rows narrows 'for every input' (looked for: loops, veiled, ifaces, maps, wideKeys, modest, calm, conditions, laid).
  DERIVED. THE GIVEN ROWS OF THIS SEAT. 15 by the template 'for every input the law returns true; each argument reads behind the call as it read before'; 0 by the template 'total and deterministic' (their statements: YtkignanlkakdpaaTotals.lean).
  GIVEN WITH THE SEED: the statements are not yours to turn. If you find one false, say at which input.
  Laid BY PROGRAM, IN A SANDBOX (cutbox-rows.mjs): the forced cells as the released guide's own fill.sh prints them over the translation 401b8645b4d8cd8e… (all of the seat's roots in one cut). By AI agents, Wed Nov 11 2026. No macro, syntax, notation, axiom, sorry.
-/
import Derived.Test.YtkignanlkakdpaaChecked
import GoSem.Claim
import GoSem.ClaimJoined
import GoSem.ClaimMapViews
import Derived.JoinedTies
import Derived.KernelRfl
namespace Go.Proofs.Ytkignanlkakdpaa
/- THE CELL 'sum', in the pinned program and in every row, IS THE sha256 OF THE DUMP (.gsa) THAT YtkignanlkakdpaaProg.lean LOADS. Nothing in Lean hashes anything: it is a label: what it is worth is what the hold of that sum in a sandbox is worth. -/
noncomputable def Try.pinned : Pinned := { name := "ytkignanlkakdpaa", sum := "401b8645b4d8cd8e60f4a698473aa529a3af55027a6d66637cd2d49e7ee8036d", checked := Try.checked }
namespace Rows
def none {H : Type} : Left H := { results := [], args := [] }

/-- 'laws.FnExactIsCamel': WHATEVER THE INPUT: true; the input reads as it did. -/
def fnExactIsCamelSpec : ChangeSpec := { name := "fnExactIsCamel", fn := fun _ => fun
  | [d] => { results := [.lit (.bool true)], args := [d] }
  | _ => none }
def fnExactIsCamelRow : OpenClaim := { program := "ytkignanlkakdpaa", sum := "401b8645b4d8cd8e60f4a698473aa529a3af55027a6d66637cd2d49e7ee8036d", func := "loop.example/g01258/laws.FnExactIsCamel", spec := "fnExactIsCamel", apart := false }
def FnExactIsCamelSaid : Prop := fnExactIsCamelRow.holds Try.pinned (OpenSpec.ofChange fnExactIsCamelSpec)

/-- ITS FALSE NEIGHBOUR: 'it returns false'. Refute it at one input. -/
def fnExactIsCamelWrong : ChangeSpec := { name := "fnExactIsCamel", fn := fun _ => fun
  | [d] => { results := [.lit (.bool false)], args := [d] }
  | _ => none }
def FnExactIsCamelWrongFalsely : Prop := fnExactIsCamelRow.holds Try.pinned (OpenSpec.ofChange fnExactIsCamelWrong)

/-- 'laws.FnExactCountTrips': WHATEVER THE INPUT: true; the input reads as it did. -/
def fnExactCountTripsSpec : ChangeSpec := { name := "fnExactCountTrips", fn := fun _ => fun
  | [d1, d2] => { results := [.lit (.bool true)], args := [d1, d2] }
  | _ => none }
def fnExactCountTripsRow : OpenClaim := { program := "ytkignanlkakdpaa", sum := "401b8645b4d8cd8e60f4a698473aa529a3af55027a6d66637cd2d49e7ee8036d", func := "loop.example/g01258/laws.FnExactCountTrips", spec := "fnExactCountTrips", apart := false }
def FnExactCountTripsSaid : Prop := fnExactCountTripsRow.holds Try.pinned (OpenSpec.ofChange fnExactCountTripsSpec)

/-- ITS FALSE NEIGHBOUR: 'it returns false'. Refute it at one input. -/
def fnExactCountTripsWrong : ChangeSpec := { name := "fnExactCountTrips", fn := fun _ => fun
  | [d1, d2] => { results := [.lit (.bool false)], args := [d1, d2] }
  | _ => none }
def FnExactCountTripsWrongFalsely : Prop := fnExactCountTripsRow.holds Try.pinned (OpenSpec.ofChange fnExactCountTripsWrong)

/-- 'laws.FnExactRateOf': WHATEVER THE INPUT: true; the input reads as it did. -/
def fnExactRateOfSpec : ChangeSpec := { name := "fnExactRateOf", fn := fun _ => fun
  | [d1, d2] => { results := [.lit (.bool true)], args := [d1, d2] }
  | _ => none }
def fnExactRateOfRow : OpenClaim := { program := "ytkignanlkakdpaa", sum := "401b8645b4d8cd8e60f4a698473aa529a3af55027a6d66637cd2d49e7ee8036d", func := "loop.example/g01258/laws.FnExactRateOf", spec := "fnExactRateOf", apart := false }
def FnExactRateOfSaid : Prop := fnExactRateOfRow.holds Try.pinned (OpenSpec.ofChange fnExactRateOfSpec)

/-- ITS FALSE NEIGHBOUR: 'it returns false'. Refute it at one input. -/
def fnExactRateOfWrong : ChangeSpec := { name := "fnExactRateOf", fn := fun _ => fun
  | [d1, d2] => { results := [.lit (.bool false)], args := [d1, d2] }
  | _ => none }
def FnExactRateOfWrongFalsely : Prop := fnExactRateOfRow.holds Try.pinned (OpenSpec.ofChange fnExactRateOfWrong)

/-- 'laws.FnExactLeftAt': WHATEVER THE INPUT: true; the input reads as it did. -/
def fnExactLeftAtSpec : ChangeSpec := { name := "fnExactLeftAt", fn := fun _ => fun
  | [d1, d2, d3] => { results := [.lit (.bool true)], args := [d1, d2, d3] }
  | _ => none }
def fnExactLeftAtRow : OpenClaim := { program := "ytkignanlkakdpaa", sum := "401b8645b4d8cd8e60f4a698473aa529a3af55027a6d66637cd2d49e7ee8036d", func := "loop.example/g01258/laws.FnExactLeftAt", spec := "fnExactLeftAt", unfollowed := true, recurses := true, apart := false }
def FnExactLeftAtSaid : Prop := fnExactLeftAtRow.holds Try.pinned (OpenSpec.ofChange fnExactLeftAtSpec)

/-- ITS FALSE NEIGHBOUR: 'it returns false'. Refute it at one input. -/
def fnExactLeftAtWrong : ChangeSpec := { name := "fnExactLeftAt", fn := fun _ => fun
  | [d1, d2, d3] => { results := [.lit (.bool false)], args := [d1, d2, d3] }
  | _ => none }
def FnExactLeftAtWrongFalsely : Prop := fnExactLeftAtRow.holds Try.pinned (OpenSpec.ofChange fnExactLeftAtWrong)

/-- 'laws.FnExactFarthestWith': WHATEVER THE INPUT: true; the input reads as it did. -/
def fnExactFarthestWithSpec : ChangeSpec := { name := "fnExactFarthestWith", fn := fun _ => fun
  | [d1, d2] => { results := [.lit (.bool true)], args := [d1, d2] }
  | _ => none }
def fnExactFarthestWithRow : OpenClaim := { program := "ytkignanlkakdpaa", sum := "401b8645b4d8cd8e60f4a698473aa529a3af55027a6d66637cd2d49e7ee8036d", func := "loop.example/g01258/laws.FnExactFarthestWith", spec := "fnExactFarthestWith", unfollowed := true, recurses := true, apart := false }
def FnExactFarthestWithSaid : Prop := fnExactFarthestWithRow.holds Try.pinned (OpenSpec.ofChange fnExactFarthestWithSpec)

/-- ITS FALSE NEIGHBOUR: 'it returns false'. Refute it at one input. -/
def fnExactFarthestWithWrong : ChangeSpec := { name := "fnExactFarthestWith", fn := fun _ => fun
  | [d1, d2] => { results := [.lit (.bool false)], args := [d1, d2] }
  | _ => none }
def FnExactFarthestWithWrongFalsely : Prop := fnExactFarthestWithRow.holds Try.pinned (OpenSpec.ofChange fnExactFarthestWithWrong)

/-- 'laws.FnExactGoodsFor': WHATEVER THE INPUT: true; the input reads as it did. -/
def fnExactGoodsForSpec : ChangeSpec := { name := "fnExactGoodsFor", fn := fun _ => fun
  | [d1, d2, d3] => { results := [.lit (.bool true)], args := [d1, d2, d3] }
  | _ => none }
def fnExactGoodsForRow : OpenClaim := { program := "ytkignanlkakdpaa", sum := "401b8645b4d8cd8e60f4a698473aa529a3af55027a6d66637cd2d49e7ee8036d", func := "loop.example/g01258/laws.FnExactGoodsFor", spec := "fnExactGoodsFor", unfollowed := true, recurses := true, apart := false }
def FnExactGoodsForSaid : Prop := fnExactGoodsForRow.holds Try.pinned (OpenSpec.ofChange fnExactGoodsForSpec)

/-- ITS FALSE NEIGHBOUR: 'it returns false'. Refute it at one input. -/
def fnExactGoodsForWrong : ChangeSpec := { name := "fnExactGoodsFor", fn := fun _ => fun
  | [d1, d2, d3] => { results := [.lit (.bool false)], args := [d1, d2, d3] }
  | _ => none }
def FnExactGoodsForWrongFalsely : Prop := fnExactGoodsForRow.holds Try.pinned (OpenSpec.ofChange fnExactGoodsForWrong)

/-- 'laws.FnExactStopsOf': WHATEVER THE INPUT: true; the input reads as it did. -/
def fnExactStopsOfSpec : ChangeSpec := { name := "fnExactStopsOf", fn := fun _ => fun
  | [d1, d2] => { results := [.lit (.bool true)], args := [d1, d2] }
  | _ => none }
def fnExactStopsOfRow : OpenClaim := { program := "ytkignanlkakdpaa", sum := "401b8645b4d8cd8e60f4a698473aa529a3af55027a6d66637cd2d49e7ee8036d", func := "loop.example/g01258/laws.FnExactStopsOf", spec := "fnExactStopsOf", unfollowed := true, recurses := true, apart := false }
def FnExactStopsOfSaid : Prop := fnExactStopsOfRow.holds Try.pinned (OpenSpec.ofChange fnExactStopsOfSpec)

/-- ITS FALSE NEIGHBOUR: 'it returns false'. Refute it at one input. -/
def fnExactStopsOfWrong : ChangeSpec := { name := "fnExactStopsOf", fn := fun _ => fun
  | [d1, d2] => { results := [.lit (.bool false)], args := [d1, d2] }
  | _ => none }
def FnExactStopsOfWrongFalsely : Prop := fnExactStopsOfRow.holds Try.pinned (OpenSpec.ofChange fnExactStopsOfWrong)

/-- 'laws.FnExactOneTrip': WHATEVER THE INPUT: true; the input reads as it did. -/
def fnExactOneTripSpec : ChangeSpec := { name := "fnExactOneTrip", fn := fun _ => fun
  | [d1, d2, d3] => { results := [.lit (.bool true)], args := [d1, d2, d3] }
  | _ => none }
def fnExactOneTripRow : OpenClaim := { program := "ytkignanlkakdpaa", sum := "401b8645b4d8cd8e60f4a698473aa529a3af55027a6d66637cd2d49e7ee8036d", func := "loop.example/g01258/laws.FnExactOneTrip", spec := "fnExactOneTrip", unfollowed := true, recurses := true, apart := false }
def FnExactOneTripSaid : Prop := fnExactOneTripRow.holds Try.pinned (OpenSpec.ofChange fnExactOneTripSpec)

/-- ITS FALSE NEIGHBOUR: 'it returns false'. Refute it at one input. -/
def fnExactOneTripWrong : ChangeSpec := { name := "fnExactOneTrip", fn := fun _ => fun
  | [d1, d2, d3] => { results := [.lit (.bool false)], args := [d1, d2, d3] }
  | _ => none }
def FnExactOneTripWrongFalsely : Prop := fnExactOneTripRow.holds Try.pinned (OpenSpec.ofChange fnExactOneTripWrong)

/-- 'laws.FnExactOneStop': WHATEVER THE INPUT: true; the input reads as it did. -/
def fnExactOneStopSpec : ChangeSpec := { name := "fnExactOneStop", fn := fun _ => fun
  | [d1, d2, d3, d4] => { results := [.lit (.bool true)], args := [d1, d2, d3, d4] }
  | _ => none }
def fnExactOneStopRow : OpenClaim := { program := "ytkignanlkakdpaa", sum := "401b8645b4d8cd8e60f4a698473aa529a3af55027a6d66637cd2d49e7ee8036d", func := "loop.example/g01258/laws.FnExactOneStop", spec := "fnExactOneStop", apart := false }
def FnExactOneStopSaid : Prop := fnExactOneStopRow.holds Try.pinned (OpenSpec.ofChange fnExactOneStopSpec)

/-- ITS FALSE NEIGHBOUR: 'it returns false'. Refute it at one input. -/
def fnExactOneStopWrong : ChangeSpec := { name := "fnExactOneStop", fn := fun _ => fun
  | [d1, d2, d3, d4] => { results := [.lit (.bool false)], args := [d1, d2, d3, d4] }
  | _ => none }
def FnExactOneStopWrongFalsely : Prop := fnExactOneStopRow.holds Try.pinned (OpenSpec.ofChange fnExactOneStopWrong)

/-- 'laws.FnExactBestStop': WHATEVER THE INPUT: true; the input reads as it did. -/
def fnExactBestStopSpec : ChangeSpec := { name := "fnExactBestStop", fn := fun _ => fun
  | [d1, d2, d3, d4] => { results := [.lit (.bool true)], args := [d1, d2, d3, d4] }
  | _ => none }
def fnExactBestStopRow : OpenClaim := { program := "ytkignanlkakdpaa", sum := "401b8645b4d8cd8e60f4a698473aa529a3af55027a6d66637cd2d49e7ee8036d", func := "loop.example/g01258/laws.FnExactBestStop", spec := "fnExactBestStop", unfollowed := true, recurses := true, apart := false }
def FnExactBestStopSaid : Prop := fnExactBestStopRow.holds Try.pinned (OpenSpec.ofChange fnExactBestStopSpec)

/-- ITS FALSE NEIGHBOUR: 'it returns false'. Refute it at one input. -/
def fnExactBestStopWrong : ChangeSpec := { name := "fnExactBestStop", fn := fun _ => fun
  | [d1, d2, d3, d4] => { results := [.lit (.bool false)], args := [d1, d2, d3, d4] }
  | _ => none }
def FnExactBestStopWrongFalsely : Prop := fnExactBestStopRow.holds Try.pinned (OpenSpec.ofChange fnExactBestStopWrong)

/-- 'laws.FnExactIsMarket': WHATEVER THE INPUT: true; the input reads as it did. -/
def fnExactIsMarketSpec : ChangeSpec := { name := "fnExactIsMarket", fn := fun _ => fun
  | [d] => { results := [.lit (.bool true)], args := [d] }
  | _ => none }
def fnExactIsMarketRow : OpenClaim := { program := "ytkignanlkakdpaa", sum := "401b8645b4d8cd8e60f4a698473aa529a3af55027a6d66637cd2d49e7ee8036d", func := "loop.example/g01258/laws.FnExactIsMarket", spec := "fnExactIsMarket", apart := false }
def FnExactIsMarketSaid : Prop := fnExactIsMarketRow.holds Try.pinned (OpenSpec.ofChange fnExactIsMarketSpec)

/-- ITS FALSE NEIGHBOUR: 'it returns false'. Refute it at one input. -/
def fnExactIsMarketWrong : ChangeSpec := { name := "fnExactIsMarket", fn := fun _ => fun
  | [d] => { results := [.lit (.bool false)], args := [d] }
  | _ => none }
def FnExactIsMarketWrongFalsely : Prop := fnExactIsMarketRow.holds Try.pinned (OpenSpec.ofChange fnExactIsMarketWrong)

/-- 'laws.FnExactEarnedAt': WHATEVER THE INPUT: true; the input reads as it did. -/
def fnExactEarnedAtSpec : ChangeSpec := { name := "fnExactEarnedAt", fn := fun _ => fun
  | [d1, d2, d3] => { results := [.lit (.bool true)], args := [d1, d2, d3] }
  | _ => none }
def fnExactEarnedAtRow : OpenClaim := { program := "ytkignanlkakdpaa", sum := "401b8645b4d8cd8e60f4a698473aa529a3af55027a6d66637cd2d49e7ee8036d", func := "loop.example/g01258/laws.FnExactEarnedAt", spec := "fnExactEarnedAt", unfollowed := true, recurses := true, apart := false }
def FnExactEarnedAtSaid : Prop := fnExactEarnedAtRow.holds Try.pinned (OpenSpec.ofChange fnExactEarnedAtSpec)

/-- ITS FALSE NEIGHBOUR: 'it returns false'. Refute it at one input. -/
def fnExactEarnedAtWrong : ChangeSpec := { name := "fnExactEarnedAt", fn := fun _ => fun
  | [d1, d2, d3] => { results := [.lit (.bool false)], args := [d1, d2, d3] }
  | _ => none }
def FnExactEarnedAtWrongFalsely : Prop := fnExactEarnedAtRow.holds Try.pinned (OpenSpec.ofChange fnExactEarnedAtWrong)

/-- 'laws.FnExactBestMarket': WHATEVER THE INPUT: true; the input reads as it did. -/
def fnExactBestMarketSpec : ChangeSpec := { name := "fnExactBestMarket", fn := fun _ => fun
  | [d1, d2, d3] => { results := [.lit (.bool true)], args := [d1, d2, d3] }
  | _ => none }
def fnExactBestMarketRow : OpenClaim := { program := "ytkignanlkakdpaa", sum := "401b8645b4d8cd8e60f4a698473aa529a3af55027a6d66637cd2d49e7ee8036d", func := "loop.example/g01258/laws.FnExactBestMarket", spec := "fnExactBestMarket", unfollowed := true, recurses := true, apart := false }
def FnExactBestMarketSaid : Prop := fnExactBestMarketRow.holds Try.pinned (OpenSpec.ofChange fnExactBestMarketSpec)

/-- ITS FALSE NEIGHBOUR: 'it returns false'. Refute it at one input. -/
def fnExactBestMarketWrong : ChangeSpec := { name := "fnExactBestMarket", fn := fun _ => fun
  | [d1, d2, d3] => { results := [.lit (.bool false)], args := [d1, d2, d3] }
  | _ => none }
def FnExactBestMarketWrongFalsely : Prop := fnExactBestMarketRow.holds Try.pinned (OpenSpec.ofChange fnExactBestMarketWrong)

/-- 'laws.FnExactWayWith': WHATEVER THE INPUT: true; the input reads as it did. -/
def fnExactWayWithSpec : ChangeSpec := { name := "fnExactWayWith", fn := fun _ => fun
  | [d1, d2, d3] => { results := [.lit (.bool true)], args := [d1, d2, d3] }
  | _ => none }
def fnExactWayWithRow : OpenClaim := { program := "ytkignanlkakdpaa", sum := "401b8645b4d8cd8e60f4a698473aa529a3af55027a6d66637cd2d49e7ee8036d", func := "loop.example/g01258/laws.FnExactWayWith", spec := "fnExactWayWith", unfollowed := true, recurses := true, apart := false }
def FnExactWayWithSaid : Prop := fnExactWayWithRow.holds Try.pinned (OpenSpec.ofChange fnExactWayWithSpec)

/-- ITS FALSE NEIGHBOUR: 'it returns false'. Refute it at one input. -/
def fnExactWayWithWrong : ChangeSpec := { name := "fnExactWayWith", fn := fun _ => fun
  | [d1, d2, d3] => { results := [.lit (.bool false)], args := [d1, d2, d3] }
  | _ => none }
def FnExactWayWithWrongFalsely : Prop := fnExactWayWithRow.holds Try.pinned (OpenSpec.ofChange fnExactWayWithWrong)

/-- 'laws.FnExactCampsLeft': WHATEVER THE INPUT: true; the input reads as it did. -/
def fnExactCampsLeftSpec : ChangeSpec := { name := "fnExactCampsLeft", fn := fun _ => fun
  | [d1, d2, d3] => { results := [.lit (.bool true)], args := [d1, d2, d3] }
  | _ => none }
def fnExactCampsLeftRow : OpenClaim := { program := "ytkignanlkakdpaa", sum := "401b8645b4d8cd8e60f4a698473aa529a3af55027a6d66637cd2d49e7ee8036d", func := "loop.example/g01258/laws.FnExactCampsLeft", spec := "fnExactCampsLeft", unfollowed := true, recurses := true, apart := false }
def FnExactCampsLeftSaid : Prop := fnExactCampsLeftRow.holds Try.pinned (OpenSpec.ofChange fnExactCampsLeftSpec)

/-- ITS FALSE NEIGHBOUR: 'it returns false'. Refute it at one input. -/
def fnExactCampsLeftWrong : ChangeSpec := { name := "fnExactCampsLeft", fn := fun _ => fun
  | [d1, d2, d3] => { results := [.lit (.bool false)], args := [d1, d2, d3] }
  | _ => none }
def FnExactCampsLeftWrongFalsely : Prop := fnExactCampsLeftRow.holds Try.pinned (OpenSpec.ofChange fnExactCampsLeftWrong)

/- THE SECOND FORM. 'bulk': how many values and letters a reading holds, each counted each time it is reached (what is shared counts as often as it is met; a slice's spare places count too). A statement '..UptoSaid' is the law's where the arguments, and the package variables that the reading takes, are together of bulk at most 1048576: NARROWER than '..Said'. Prove '..Said' where nothing that the law and all that it calls make is longer than what came in: it says more and counts as full. Else prove '..UptoSaid'. A law counts once. -/
mutual
def uptoBulk {H : Type} : DataW H → Nat
  | .lit (.string bytes) => bytes.length + 1
  | .lit _ => 1
  | .nil => 1
  | .ptr d => uptoBulk d + 1
  | .slice elems spare => uptoBulkAll elems + uptoBulkAll spare + 1
  | .agg parts => uptoBulkAll parts + 1
  | .iface _ d => uptoBulk d + 1
  | .map entries => uptoBulkEntries entries + 1
  | .held _ => 1
def uptoBulkAll {H : Type} : List (DataW H) → Nat
  | [] => 0
  | d :: r => uptoBulk d + uptoBulkAll r
def uptoBulkEntries {H : Type} : List (Lit × DataW H) → Nat
  | [] => 0
  | x :: r => uptoBulkEntry x + uptoBulkEntries r
def uptoBulkEntry {H : Type} : Lit × DataW H → Nat
  | (.string bytes, d) => bytes.length + uptoBulk d + 1
  | (_, d) => uptoBulk d + 1
 end
def uptoSmall : (H : Type) → List (DataW H) → Bool := fun _ ds => decide (uptoBulkAll ds ≤ 1048576)
def OpenSpec.upto (s : _root_.Go.ChangeSpec) : _root_.Go.OpenSpec := { _root_.Go.OpenSpec.ofChange s with cond := some uptoSmall }

/-- 'laws.FnExactIsCamel', WHERE WHAT IT READS IS OF BULK AT MOST 1048576: true; the input reads as it did. -/
def fnExactIsCamelUptoRow : OpenClaim := { program := "ytkignanlkakdpaa", sum := "401b8645b4d8cd8e60f4a698473aa529a3af55027a6d66637cd2d49e7ee8036d", func := "loop.example/g01258/laws.FnExactIsCamel", spec := "fnExactIsCamel", apart := false, narrowed := true }
def FnExactIsCamelUptoSaid : Prop := fnExactIsCamelUptoRow.holds Try.pinned (OpenSpec.upto fnExactIsCamelSpec)

/-- 'laws.FnExactCountTrips', WHERE WHAT IT READS IS OF BULK AT MOST 1048576: true; the input reads as it did. -/
def fnExactCountTripsUptoRow : OpenClaim := { program := "ytkignanlkakdpaa", sum := "401b8645b4d8cd8e60f4a698473aa529a3af55027a6d66637cd2d49e7ee8036d", func := "loop.example/g01258/laws.FnExactCountTrips", spec := "fnExactCountTrips", apart := false, narrowed := true }
def FnExactCountTripsUptoSaid : Prop := fnExactCountTripsUptoRow.holds Try.pinned (OpenSpec.upto fnExactCountTripsSpec)

/-- 'laws.FnExactRateOf', WHERE WHAT IT READS IS OF BULK AT MOST 1048576: true; the input reads as it did. -/
def fnExactRateOfUptoRow : OpenClaim := { program := "ytkignanlkakdpaa", sum := "401b8645b4d8cd8e60f4a698473aa529a3af55027a6d66637cd2d49e7ee8036d", func := "loop.example/g01258/laws.FnExactRateOf", spec := "fnExactRateOf", apart := false, narrowed := true }
def FnExactRateOfUptoSaid : Prop := fnExactRateOfUptoRow.holds Try.pinned (OpenSpec.upto fnExactRateOfSpec)

/-- 'laws.FnExactLeftAt', WHERE WHAT IT READS IS OF BULK AT MOST 1048576: true; the input reads as it did. -/
def fnExactLeftAtUptoRow : OpenClaim := { program := "ytkignanlkakdpaa", sum := "401b8645b4d8cd8e60f4a698473aa529a3af55027a6d66637cd2d49e7ee8036d", func := "loop.example/g01258/laws.FnExactLeftAt", spec := "fnExactLeftAt", unfollowed := true, recurses := true, apart := false, narrowed := true }
def FnExactLeftAtUptoSaid : Prop := fnExactLeftAtUptoRow.holds Try.pinned (OpenSpec.upto fnExactLeftAtSpec)

/-- 'laws.FnExactFarthestWith', WHERE WHAT IT READS IS OF BULK AT MOST 1048576: true; the input reads as it did. -/
def fnExactFarthestWithUptoRow : OpenClaim := { program := "ytkignanlkakdpaa", sum := "401b8645b4d8cd8e60f4a698473aa529a3af55027a6d66637cd2d49e7ee8036d", func := "loop.example/g01258/laws.FnExactFarthestWith", spec := "fnExactFarthestWith", unfollowed := true, recurses := true, apart := false, narrowed := true }
def FnExactFarthestWithUptoSaid : Prop := fnExactFarthestWithUptoRow.holds Try.pinned (OpenSpec.upto fnExactFarthestWithSpec)

/-- 'laws.FnExactGoodsFor', WHERE WHAT IT READS IS OF BULK AT MOST 1048576: true; the input reads as it did. -/
def fnExactGoodsForUptoRow : OpenClaim := { program := "ytkignanlkakdpaa", sum := "401b8645b4d8cd8e60f4a698473aa529a3af55027a6d66637cd2d49e7ee8036d", func := "loop.example/g01258/laws.FnExactGoodsFor", spec := "fnExactGoodsFor", unfollowed := true, recurses := true, apart := false, narrowed := true }
def FnExactGoodsForUptoSaid : Prop := fnExactGoodsForUptoRow.holds Try.pinned (OpenSpec.upto fnExactGoodsForSpec)

/-- 'laws.FnExactStopsOf', WHERE WHAT IT READS IS OF BULK AT MOST 1048576: true; the input reads as it did. -/
def fnExactStopsOfUptoRow : OpenClaim := { program := "ytkignanlkakdpaa", sum := "401b8645b4d8cd8e60f4a698473aa529a3af55027a6d66637cd2d49e7ee8036d", func := "loop.example/g01258/laws.FnExactStopsOf", spec := "fnExactStopsOf", unfollowed := true, recurses := true, apart := false, narrowed := true }
def FnExactStopsOfUptoSaid : Prop := fnExactStopsOfUptoRow.holds Try.pinned (OpenSpec.upto fnExactStopsOfSpec)

/-- 'laws.FnExactOneTrip', WHERE WHAT IT READS IS OF BULK AT MOST 1048576: true; the input reads as it did. -/
def fnExactOneTripUptoRow : OpenClaim := { program := "ytkignanlkakdpaa", sum := "401b8645b4d8cd8e60f4a698473aa529a3af55027a6d66637cd2d49e7ee8036d", func := "loop.example/g01258/laws.FnExactOneTrip", spec := "fnExactOneTrip", unfollowed := true, recurses := true, apart := false, narrowed := true }
def FnExactOneTripUptoSaid : Prop := fnExactOneTripUptoRow.holds Try.pinned (OpenSpec.upto fnExactOneTripSpec)

/-- 'laws.FnExactOneStop', WHERE WHAT IT READS IS OF BULK AT MOST 1048576: true; the input reads as it did. -/
def fnExactOneStopUptoRow : OpenClaim := { program := "ytkignanlkakdpaa", sum := "401b8645b4d8cd8e60f4a698473aa529a3af55027a6d66637cd2d49e7ee8036d", func := "loop.example/g01258/laws.FnExactOneStop", spec := "fnExactOneStop", apart := false, narrowed := true }
def FnExactOneStopUptoSaid : Prop := fnExactOneStopUptoRow.holds Try.pinned (OpenSpec.upto fnExactOneStopSpec)

/-- 'laws.FnExactBestStop', WHERE WHAT IT READS IS OF BULK AT MOST 1048576: true; the input reads as it did. -/
def fnExactBestStopUptoRow : OpenClaim := { program := "ytkignanlkakdpaa", sum := "401b8645b4d8cd8e60f4a698473aa529a3af55027a6d66637cd2d49e7ee8036d", func := "loop.example/g01258/laws.FnExactBestStop", spec := "fnExactBestStop", unfollowed := true, recurses := true, apart := false, narrowed := true }
def FnExactBestStopUptoSaid : Prop := fnExactBestStopUptoRow.holds Try.pinned (OpenSpec.upto fnExactBestStopSpec)

/-- 'laws.FnExactIsMarket', WHERE WHAT IT READS IS OF BULK AT MOST 1048576: true; the input reads as it did. -/
def fnExactIsMarketUptoRow : OpenClaim := { program := "ytkignanlkakdpaa", sum := "401b8645b4d8cd8e60f4a698473aa529a3af55027a6d66637cd2d49e7ee8036d", func := "loop.example/g01258/laws.FnExactIsMarket", spec := "fnExactIsMarket", apart := false, narrowed := true }
def FnExactIsMarketUptoSaid : Prop := fnExactIsMarketUptoRow.holds Try.pinned (OpenSpec.upto fnExactIsMarketSpec)

/-- 'laws.FnExactEarnedAt', WHERE WHAT IT READS IS OF BULK AT MOST 1048576: true; the input reads as it did. -/
def fnExactEarnedAtUptoRow : OpenClaim := { program := "ytkignanlkakdpaa", sum := "401b8645b4d8cd8e60f4a698473aa529a3af55027a6d66637cd2d49e7ee8036d", func := "loop.example/g01258/laws.FnExactEarnedAt", spec := "fnExactEarnedAt", unfollowed := true, recurses := true, apart := false, narrowed := true }
def FnExactEarnedAtUptoSaid : Prop := fnExactEarnedAtUptoRow.holds Try.pinned (OpenSpec.upto fnExactEarnedAtSpec)

/-- 'laws.FnExactBestMarket', WHERE WHAT IT READS IS OF BULK AT MOST 1048576: true; the input reads as it did. -/
def fnExactBestMarketUptoRow : OpenClaim := { program := "ytkignanlkakdpaa", sum := "401b8645b4d8cd8e60f4a698473aa529a3af55027a6d66637cd2d49e7ee8036d", func := "loop.example/g01258/laws.FnExactBestMarket", spec := "fnExactBestMarket", unfollowed := true, recurses := true, apart := false, narrowed := true }
def FnExactBestMarketUptoSaid : Prop := fnExactBestMarketUptoRow.holds Try.pinned (OpenSpec.upto fnExactBestMarketSpec)

/-- 'laws.FnExactWayWith', WHERE WHAT IT READS IS OF BULK AT MOST 1048576: true; the input reads as it did. -/
def fnExactWayWithUptoRow : OpenClaim := { program := "ytkignanlkakdpaa", sum := "401b8645b4d8cd8e60f4a698473aa529a3af55027a6d66637cd2d49e7ee8036d", func := "loop.example/g01258/laws.FnExactWayWith", spec := "fnExactWayWith", unfollowed := true, recurses := true, apart := false, narrowed := true }
def FnExactWayWithUptoSaid : Prop := fnExactWayWithUptoRow.holds Try.pinned (OpenSpec.upto fnExactWayWithSpec)

/-- 'laws.FnExactCampsLeft', WHERE WHAT IT READS IS OF BULK AT MOST 1048576: true; the input reads as it did. -/
def fnExactCampsLeftUptoRow : OpenClaim := { program := "ytkignanlkakdpaa", sum := "401b8645b4d8cd8e60f4a698473aa529a3af55027a6d66637cd2d49e7ee8036d", func := "loop.example/g01258/laws.FnExactCampsLeft", spec := "fnExactCampsLeft", unfollowed := true, recurses := true, apart := false, narrowed := true }
def FnExactCampsLeftUptoSaid : Prop := fnExactCampsLeftUptoRow.holds Try.pinned (OpenSpec.upto fnExactCampsLeftSpec)

end Rows
end Go.Proofs.Ytkignanlkakdpaa
