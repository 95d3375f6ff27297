/- Plans: a plan in memory; what is kept when a step is added. -/
import Derived.Test.YtjmmlknbdmngeaaStepT
import Derived.Test.YtjmmlknbdmngeaaApp
import Derived.Test.YtjmmlknbdmngeaaOrd2
import Derived.Test.YtjmmlknbdmngeaaReck1
import Derived.Test.YtjmmlknbdmngeaaReck2
import Derived.Test.YtjmmlknbdmngeaaPubS1
import Derived.Test.YtjmmlknbdmngeaaPubS2
import Derived.Test.YtjmmlknbdmngeaaLStep
import Derived.Deep.RegionHeldLaw
namespace Go.Proofs.Ytjmmlknbdmngeaa
open Go.ChangeShapes Go.WideShapes Go.ChangeAt Go.RowKit Go.Joins
set_option maxRecDepth 100000
set_option linter.unusedVariables false
set_option linter.unusedSimpArgs false


/-- A plan in block g: its steps, a row of its own, and its tank. -/
structure PlanSt (g : Nat) (W : World) (v : Value) (l : List StepV) (n d : Int) : Prop where
  c0 : W.cell? ⟨g, 0, none⟩ = some v
  c1 : W.cell? ⟨g, 1, none⟩ = some (.int .i64 n)
  c2 : W.cell? ⟨g, 2, none⟩ = some (.int .i64 d)
  z0 : W.frozen? ⟨g, 0, none⟩ = false
  z1 : W.frozen? ⟨g, 1, none⟩ = false
  z2 : W.frozen? ⟨g, 2, none⟩ = false
  own : W.ownsRow (g + 1) 49 3 v l.length (cellsG fStep l)
  sz : g < W.heap.size
/-- A block that holds steps. -/
def StepBlk (w : World) (b : Nat) : Prop := ∃ cs fz, w.heap[b]? = some (.cells cs 49 fz)
theorem step_of_own {w : World} {base n b : Nat} {v : Value} {xs : List Value} (h : w.ownsRow base 49 3 v n xs) (hv : v.ownBlock = some b) : StepBlk w b := by
  rcases h.2 with ⟨rfl, _⟩ | ⟨g, cap, cur, rfl, _, hb, _⟩
  · cases hv
  · simp only [Value.ownBlock, Option.some.injEq] at hv
    subst hv
    exact ⟨_, _, hb⟩
/-- What a call keeps that changes a plan in block g alone: all blocks but that one and those of steps. -/
structure PlanKeep (g : Nat) (w w' : World) : Prop where
  size : w.heap.size ≤ w'.heap.size
  block : ∀ b, b < w.heap.size → b ≠ g → ¬ StepBlk w b → w'.heap[b]? = w.heap[b]?
  bel : ∀ (B : Nat) (a : World), B ≤ g → Below B a w → Below B a w'
theorem PlanKeep.nots {g b : Nat} {w w' : World} (h : PlanKeep g w w') (hb : b < w.heap.size) (hg : b ≠ g) (hs : ¬ StepBlk w b) : ¬ StepBlk w' b := by
  rintro ⟨cs, fz, e⟩
  rw [h.block b hb hg hs] at e
  exact hs ⟨cs, fz, e⟩
theorem PlanKeep.cell {g b o : Nat} {x : Value} {w w' : World} (h : PlanKeep g w w') (hb : b < w.heap.size) (hg : b ≠ g) (hs : ¬ StepBlk w b) (hc : w.cell? ⟨b, o, none⟩ = some x) : w'.cell? ⟨b, o, none⟩ = some x :=
  (World.cell?_of_block (a := ⟨b, o, none⟩) (h.block b hb hg hs)).trans hc
theorem PlanKeep.frozen {g b o : Nat} {x : Bool} {w w' : World} (h : PlanKeep g w w') (hb : b < w.heap.size) (hg : b ≠ g) (hs : ¬ StepBlk w b) (hc : w.frozen? ⟨b, o, none⟩ = x) : w'.frozen? ⟨b, o, none⟩ = x :=
  (World.frozen?_of_block (a := ⟨b, o, none⟩) (h.block b hb hg hs)).trans hc
theorem PlanKeep.trans {g : Nat} {w w' w'' : World} (h1 : PlanKeep g w w') (h2 : PlanKeep g w' w'') : PlanKeep g w w'' where
  size := Nat.le_trans h1.size h2.size
  block b hb hg hs := (h2.block b (Nat.lt_of_lt_of_le hb h1.size) hg (h1.nots hb hg hs)).trans (h1.block b hb hg hs)
  bel B a hB h := h2.bel B a hB (h1.bel B a hB h)
theorem PlanKeep.refl (g : Nat) (w : World) : PlanKeep g w w := ⟨Nat.le_refl _, fun _ _ _ _ => rfl, fun _ _ _ h => h⟩
theorem PlanKeep.alloc {g : Nat} {w w' : World} (h : PlanKeep g w w') (hg : g < w.heap.size) (o : Obj) : PlanKeep g w (w'.alloc o) where
  size := Nat.le_trans h.size (by simp)
  block b hb hbg hs := by
    have hlt : b < w'.heap.size := Nat.lt_of_lt_of_le hb h.size
    have e : (w'.alloc o).heap[b]? = w'.heap[b]? := (World.grownBy_alloc w' o Option.none).block b hlt (by simp)
    rw [e]; exact h.block b hb hbg hs
  bel B a hB hb := (h.bel B a hB hb).alloc (by have := h.size; omega) _
theorem PlanKeep.drew {g : Nat} {w w' : World} (h : PlanKeep g w w') : PlanKeep g w w'.drew := ⟨h.size, h.block, fun B a hB hb => (h.bel B a hB hb).drew⟩
theorem PlanKeep.set {g o : Nat} {w w' : World} (h : PlanKeep g w w') (u : Value) : PlanKeep g w (w'.setCell ⟨g, o, none⟩ u) where
  size := by simpa using h.size
  block b hb hbg hs := by
    rw [← h.block b hb hbg hs]
    simp [World.setCell, Array.getElem?_modify, Ne.symm hbg]
  bel B a hB hb := (h.bel B a hB hb).setCell hB u
theorem PlanKeep.grown {g base n : Nat} {v : Value} {xs : List Value} {w W W' : World} (h : PlanKeep g w W) (hg : W.grownBy W' v.ownBlock) (hown : w.ownsRow base 49 3 v n xs) (hb : g < base) (hgw : g < w.heap.size) : PlanKeep g w W' where
  size := Nat.le_trans h.size hg.size
  block b hlt hbg hs := by
    rw [hg.block b (Nat.lt_of_lt_of_le hlt h.size) (fun e => hs (step_of_own hown e.symm))]
    exact h.block b hlt hbg hs
  bel B a hB hbl := (h.bel B a hB hbl).grown hg (by have := h.size; omega) (fun k e => by have := own_block hown e; omega)
theorem PlanKeep.below {g : Nat} {w W W' : World} (h : PlanKeep g w W) (hb : Below W.heap.size W W') (hg : g < W.heap.size) : PlanKeep g w W' where
  size := Nat.le_trans h.size hb.size
  block b hlt hbg hs := by
    rw [← h.block b hlt hbg hs]
    exact hb.block b (Nat.lt_of_lt_of_le hlt h.size)
  bel B a hB hbl := (h.bel B a hB hbl).trans (hb.mono (by omega))
/-- Behind what only opens blocks. -/
theorem PlanSt.later {g : Nat} {W W' : World} {v : Value} {l : List StepV} {n d : Int} (h : PlanSt g W v l n d) (hb : Below W.heap.size W W') : PlanSt g W' v l n d :=
  ⟨keepa hb h.sz h.c0, keepa hb h.sz h.c1, keepa hb h.sz h.c2, keepf hb h.sz h.z0, keepf hb h.sz h.z1, keepf hb h.sz h.z2, ownsRow_below h.own hb, Nat.lt_of_lt_of_le h.sz hb.size⟩
/-- The tank behind a step. -/
def tnN (k n d p q : Int) : Int := if k = 3 then lowN (n * q + p * d) (d * q) else lowN (n * q - p * d) (d * q)
def tnD (k n d p q : Int) : Int := if k = 3 then lowD (n * q + p * d) (d * q) else lowD (n * q - p * d) (d * q)
theorem zeroStep : (Try.prog.info? 49).map (fun i => (i.zero, i.size, i.bytes)) = some (some (.agg #[.int .i64 0, .int .i64 0, .int .i64 0]), 3, 24) := by kernel_rfl
theorem cell_three_new (w : World) (a b c : Value) (t : TypeId) : ∀ j u, [a, b, c][j]? = some u → (w.alloc (.cells #[a, b, c] t)).cell? ((⟨w.heap.size, 0, none⟩ : Addr).add j) = some u := by
  intro j u h
  match j with
  | 0 => simp at h; subst h; simp [go_sem]
  | 1 => simp at h; subst h; simp [go_sem]
  | 2 => simp at h; subst h; simp [go_sem]
  | n + 3 => simp at h

end Go.Proofs.Ytjmmlknbdmngeaa
