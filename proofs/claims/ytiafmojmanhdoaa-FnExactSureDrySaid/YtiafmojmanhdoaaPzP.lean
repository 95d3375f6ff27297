/- Answers that are a puzzle and a bool. -/
import Derived.Test.YtiafmojmanhdoaaClueT
namespace Go.Proofs.Ytiafmojmanhdoaa
open Go.ChangeShapes Go.WideShapes Go.ChangeAt Go.RowKit Go.Joins
set_option maxRecDepth 100000
set_option linter.unusedVariables false
set_option linter.unusedSimpArgs false


/-- A call's answer: a puzzle whose clues it owns, and a bool. -/
def AnsP (m : Int) (l : List ClueV) (b : Bool) (w : World) (e : Ending) (w' : World) : Prop :=
  ∃ v, e = .returned (.tuple #[.agg #[.int .i64 m, v], .bool b]) ∧ w'.ownsRow w.heap.size 27 3 v l.length (cellsG fClue l) ∧ Below w.heap.size w w'
end Go.Proofs.Ytiafmojmanhdoaa
