/- Handovers: what the laws' helper does with one. -/
import Derived.Test.YtgpbkjakmbmccaaRow
import Derived.Test.YtgpbkjakmbmccaaLawBase
namespace Go.Proofs.Ytgpbkjakmbmccaa
open Go.ChangeShapes Go.WideShapes Go.ChangeAt Go.RowKit Go.Joins
set_option maxRecDepth 100000
set_option linter.unusedVariables false
set_option linter.unusedSimpArgs false

/-- A handover: where (a / b), what it gives (c / d), what it keeps (e / f). -/
structure HandV where
  a : Int
  b : Int
  c : Int
  d : Int
  e : Int
  f : Int
instance : Inhabited HandV := ⟨⟨0, 0, 0, 0, 0, 0⟩⟩
def fHand (p : HandV) : List Int := [p.a, p.b, p.c, p.d, p.e, p.f]
theorem fHand_len (p : HandV) : (fHand p).length = 6 := rfl
theorem cell_six_new (w : World) (a b c d e f : Value) (t : TypeId) : ∀ j u, [a, b, c, d, e, f][j]? = some u → (w.alloc (.cells #[a, b, c, d, e, f] t)).cell? ((⟨w.heap.size, 0, none⟩ : Addr).add j) = some u := by
  intro j u h
  match j with
  | 0 => simp at h; subst h; simp [go_sem]
  | 1 => simp at h; subst h; simp [go_sem]
  | 2 => simp at h; subst h; simp [go_sem]
  | 3 => simp at h; subst h; simp [go_sem]
  | 4 => simp at h; subst h; simp [go_sem]
  | 5 => simp at h; subst h; simp [go_sem]
  | n + 6 => simp at h
end Go.Proofs.Ytgpbkjakmbmccaa
