/- The walk of the law FnExactAddClue: it answers as the model does, at every puzzle and every clue; the puzzle stays as it was, and the answer owns its memory. No condition. -/
import Derived.Test.YthhmmdapoaeeiaaPzS
import Derived.Test.YthhmmdapoaeeiaaPzP
import Derived.Test.YthhmmdapoaeeiaaPzJ
import Derived.Test.YthhmmdapoaeeiaaRes9
import Derived.Deep.RegionHeld3
import Derived.Deep.DeepCutAuto
namespace Go.Proofs.Ythhmmdapoaeeiaa
open Go.ChangeShapes Go.WideShapes Go.ChangeAt Go.RowKit Go.Joins
set_option maxRecDepth 100000
set_option linter.unusedVariables false
set_option linter.unusedSimpArgs false

def C3 (g : Nat) (x a b : Int) (W : World) : Prop := W.cell? ⟨g, 0, none⟩ = some (.int .i64 x) ∧ W.cell? ⟨g, 1, none⟩ = some (.int .i64 a) ∧ W.cell? ⟨g, 2, none⟩ = some (.int .i64 b) ∧ g < W.heap.size
theorem C3.later {g : Nat} {x a b : Int} {W W' : World} (h : C3 g x a b W) (hb : Below W.heap.size W W') : C3 g x a b W' :=
  ⟨keepa hb h.2.2.2 h.1, keepa hb h.2.2.2 h.2.1, keepa hb h.2.2.2 h.2.2.1, Nat.lt_of_lt_of_le h.2.2.2 hb.size⟩
theorem C3.new (W : World) (x a b : Int) (t : TypeId) : C3 W.heap.size x a b (W.alloc (.cells #[.int .i64 x, .int .i64 a, .int .i64 b] t)) := ⟨by simp, by simp, by simp, by simp⟩
theorem C3.grown {g : Nat} {x a b : Int} {W W' : World} (h : C3 g x a b W) {row : Option Nat} (hg : W.grownBy W' row) (hne : some g ≠ row) : C3 g x a b W' :=
  ⟨hg.cell h.1 hne, hg.cell h.2.1 hne, hg.cell h.2.2.1 hne, Nat.lt_of_lt_of_le h.2.2.2 hg.size⟩
theorem Res9.newd (w : World) (x y : Value) (t : TypeId) : Res9 w.heap.size (w.drew.alloc (.cells #[x, y] t)) :=
  ⟨x, y, by simp [go_sem], by simp [go_sem], by simp [go_sem], by simp [go_sem], by simp⟩
/-- What a call of a drawn region leaves in a box of its own. -/
def BoxP (V : World) (rm : Int) (rl : List ClueV) (rb : Bool) (s6 s7 : Value) (wx : World) : Prop :=
  ∃ (gB : Nat) (v3 : Value), s6 = .pointer (some ⟨gB, 0, none⟩) ∧ s7 = .bool rb ∧ PzAt gB rm v3 wx ∧ wx.ownsRow V.heap.size 25 3 v3 rl.length (cellsG fClue rl) ∧ Below V.heap.size V wx ∧ V.heap.size ≤ gB ∧ v3.ownBlock ≠ some gB
/-- The box was allotted behind the call. -/
theorem box_late {V W : World} {rm : Int} {rl : List ClueV} {v3 : Value} {b9 : Nat} (h : W.ownsRow b9 25 3 v3 rl.length (cellsG fClue rl)) (hb9 : V.heap.size ≤ b9) (o : Obj) (x y : Value) {g : Nat} (hg : W.heap.size = g) :
    (((W.alloc o).setCell ⟨g, 0, none⟩ x).setCell ⟨g, 1, none⟩ y).ownsRow V.heap.size 25 3 v3 rl.length (cellsG fClue rl) := by
  subst hg
  have hne : v3.ownBlock ≠ some W.heap.size := fun e => by have := (h.lt _ e).2; omega
  exact own_set (own_set (own_mono (own_alloc h o) hb9) hne x) hne y
/-- The box was allotted ahead of the call. -/
theorem box_soon {V W : World} {rl : List ClueV} {v3 : Value} {b9 : Nat} (h : W.ownsRow b9 25 3 v3 rl.length (cellsG fClue rl)) (hb9 : V.heap.size ≤ b9) (x y : Value) {g : Nat} (hg : g < b9) :
    ((W.setCell ⟨g, 0, none⟩ x).setCell ⟨g, 1, none⟩ y).ownsRow V.heap.size 25 3 v3 rl.length (cellsG fClue rl) :=
  own_set (own_set (own_mono h hb9) (own_ne h hg) x) (own_ne h hg) y
set_option maxHeartbeats 12800000 in
theorem addClue_walk_of (m : Int) (bm : (-9223372036854775808 ≤ m ∧ m ≤ 9223372036854775807)) (x a b : Int) (bx : (-9223372036854775808 ≤ x ∧ x ≤ 9223372036854775807)) (ba : (-9223372036854775808 ≤ a ∧ a ≤ 9223372036854775807)) (bb : (-9223372036854775808 ≤ b ∧ b ≤ 9223372036854775807)) (sa : Option Addr) (cap : Nat) (l : List ClueV) (w : World) (hn : l.length ≤ 1048576)
    (hbd : ∀ p ∈ l, ∀ y ∈ fClue p, -9223372036854775808 ≤ y ∧ y ≤ 9223372036854775807)
    (hcopy0 : ∀ W, Below w.heap.size w W → Calls Try.prog 25 #[.slice sa l.length cap] W (EndCopyG 25 3 fClue l W))
    (hr2 : (adL m l x a b).length ≤ 1048576)
    (hs : ∀ (W : World) (v : Value), RowG 3 fClue W v l → Calls Try.prog 19 #[.agg #[.int .i64 m, v], .agg #[.int .i64 x, .int .i64 a, .int .i64 b]] W (AnsP (adM m l x a b) (adL m l x a b) (adB m l x a b) W))
    (hi : ∀ (W : World) (v : Value), RowG 3 fClue W v l → Calls Try.prog 20 #[.agg #[.int .i64 m, v], .agg #[.int .i64 x, .int .i64 a, .int .i64 b]] W (AnsP (adM m l x a b) (adL m l x a b) (adB m l x a b) W)) :
    Calls Try.prog 6 #[.agg #[.int .i64 m, .slice sa l.length cap], .agg #[.int .i64 x, .int .i64 a, .int .i64 b]] w fun e' w' => e' = .returned (.bool true) ∧ Below w.heap.size w w' := by
  have hpos : ¬ (1048576 - (l.length : Int) < 0) := by omega
  have hsz := fun W => sz_pz m sa l.length cap W (by omega)
  have HZ := Lib.hid hsz
  have HY := Lib.hid hcopy0
  have HBD := Lib.hid hbd
  have HS := Lib.hid hs
  have HI := Lib.hid hi
  have HC := Lib.hid (fun W => toClue x a b W)
  clear hsz hcopy0 hbd hs hi
  have hr3 := hr2
  generalize adL m l x a b = rl at *
  generalize adB m l x a b = rb at *
  generalize adM m l x a b = rm at *
  go_enter Try.func6, Try.ntmps6
  go_wp2_with fail; refine (HZ.out _).mono ?_; rintro e' w1 ⟨rfl, hb1⟩
  rw [if_pos hn]
  have ha1 : Below w.heap.size w w1 := by (repeat (first | with_reducible exact Below.refl _ _ | with_reducible assumption | with_reducible refine balloc ?_ _ | with_reducible refine bdrew ?_ | with_reducible refine below_drewN ?_ _ | with_reducible refine bset ?_ ?_ _ | with_reducible exact Nat.le_refl _ | with_reducible refine bsize ?_ | (dsimp only; refine Nat.le_trans ?_ (Nat.le_add_right _ _)) | with_reducible refine Nat.le_trans ?_ (Nat.le_add_right _ _) | (with_reducible refine bstep ?_ (by assumption))))
  have A : PzAt w.heap.size m (.slice sa l.length cap) w1 := ((PzAt.new w m _ _).alloc _).later hb1
  have C : C3 (w.heap.size + 1) x a b w1 := by
    have h := C3.new (w.alloc (.cells #[.int .i64 m, .slice sa l.length cap] 30)) x a b 23
    simp only [World.size_alloc] at h
    exact h.later hb1
  clear HZ hb1
  obtain ⟨Ap, Aq, Az⟩ := id A
  obtain ⟨C0, C1, C2, Cz⟩ := id C
  go_upto_region 5 with fail
  have hS := Lib.hid (fun (W : World) (h9 : Below w1.heap.size w1 W) => (⟨h9, keepa h9 Az Ap, keepa h9 Az Aq, keepa h9 Cz C0, keepa h9 Cz C1, keepa h9 Cz C2⟩ : Below w1.heap.size w1 W ∧ W.cell? ⟨w.heap.size, 0, none⟩ = some (.int .i64 m) ∧ W.cell? ⟨w.heap.size, 1, none⟩ = some (.slice sa l.length cap) ∧ W.cell? ⟨w.heap.size + 1, 0, none⟩ = some (.int .i64 x) ∧ W.cell? ⟨w.heap.size + 1, 1, none⟩ = some (.int .i64 a) ∧ W.cell? ⟨w.heap.size + 1, 2, none⟩ = some (.int .i64 b)))
  go_cut [6, 7] (fun s6 s7 wx => BoxP w1 rm rl rb s6 s7 wx)
  case first =>
    go_region_held3 (fun W => Below w1.heap.size w1 W ∧ W.cell? ⟨w.heap.size, 0, none⟩ = some (.int .i64 m) ∧ W.cell? ⟨w.heap.size, 1, none⟩ = some (.slice sa l.length cap) ∧ W.cell? ⟨w.heap.size + 1, 0, none⟩ = some (.int .i64 x) ∧ W.cell? ⟨w.heap.size + 1, 1, none⟩ = some (.int .i64 a) ∧ W.cell? ⟨w.heap.size + 1, 2, none⟩ = some (.int .i64 b)) ((refine hS.out _ ?_; first | with_reducible assumption | ((repeat (first | with_reducible exact Below.refl _ _ | with_reducible assumption | with_reducible refine balloc ?_ _ | with_reducible refine bdrew ?_ | with_reducible refine below_drewN ?_ _ | with_reducible refine bset ?_ ?_ _ | with_reducible exact Nat.le_refl _ | with_reducible refine bsize ?_ | (dsimp only; refine Nat.le_trans ?_ (Nat.le_add_right _ _)) | with_reducible refine Nat.le_trans ?_ (Nat.le_add_right _ _) | (with_reducible refine bstep ?_ (by assumption)))); done))) (first | (go_at_call 12; refine Calls.mono (toPz_any m _ l _ (fun W hb => HY.out W (bstep (show Below w.heap.size w _ by first | with_reducible assumption | exact bstep ha1 (by first | with_reducible assumption | ((repeat (first | with_reducible exact Below.refl _ _ | with_reducible assumption | with_reducible refine balloc ?_ _ | with_reducible refine bdrew ?_ | with_reducible refine below_drewN ?_ _ | with_reducible refine bset ?_ ?_ _ | with_reducible exact Nat.le_refl _ | with_reducible refine bsize ?_ | (dsimp only; refine Nat.le_trans ?_ (Nat.le_add_right _ _)) | with_reducible refine Nat.le_trans ?_ (Nat.le_add_right _ _) | (with_reducible refine bstep ?_ (by assumption)))); done)) | ((repeat (first | with_reducible exact Below.refl _ _ | with_reducible assumption | with_reducible refine balloc ?_ _ | with_reducible refine bdrew ?_ | with_reducible refine below_drewN ?_ _ | with_reducible refine bset ?_ ?_ _ | with_reducible exact Nat.le_refl _ | with_reducible refine bsize ?_ | (dsimp only; refine Nat.le_trans ?_ (Nat.le_add_right _ _)) | with_reducible refine Nat.le_trans ?_ (Nat.le_add_right _ _) | (with_reducible refine bstep ?_ (by assumption)))); done)) hb))) ?_; rintro e9 w9 ⟨g9, rfl, hown9, hb9⟩; (try have fq := Res9.later (by first | with_reducible assumption | with_reducible exact Res9.drew (by with_reducible assumption) | exact Res9.newd _ _ _ _ | exact Res9.new _ _ _ _ | exact Res9.drew (Res9.newd _ _ _ _) | exact Res9.drew (Res9.new _ _ _ _)) hb9); (try (have fq2 := fq; obtain ⟨rx, ry, r1, r2, r3, r4, rz⟩ := fq2)); (have f0 := bstep (by first | with_reducible assumption | ((repeat (first | with_reducible exact Below.refl _ _ | with_reducible assumption | with_reducible refine balloc ?_ _ | with_reducible refine bdrew ?_ | with_reducible refine below_drewN ?_ _ | with_reducible refine bset ?_ ?_ _ | with_reducible exact Nat.le_refl _ | with_reducible refine bsize ?_ | (dsimp only; refine Nat.le_trans ?_ (Nat.le_add_right _ _)) | with_reducible refine Nat.le_trans ?_ (Nat.le_add_right _ _) | (with_reducible refine bstep ?_ (by assumption)))); done) : Below w1.heap.size w1 _) hb9); (have fS := hS.out _ f0); (have sz8 := f0.size); go_split_ands) | (go_at_call 8; refine Calls.mono (HC.out _) ?_; rintro e9 w9 ⟨rfl, hb9⟩; (try have fq := Res9.later (by first | with_reducible assumption | with_reducible exact Res9.drew (by with_reducible assumption) | exact Res9.newd _ _ _ _ | exact Res9.new _ _ _ _ | exact Res9.drew (Res9.newd _ _ _ _) | exact Res9.drew (Res9.new _ _ _ _)) hb9); (try (have fq2 := fq; obtain ⟨rx, ry, r1, r2, r3, r4, rz⟩ := fq2)); (have f0 := bstep (by first | with_reducible assumption | ((repeat (first | with_reducible exact Below.refl _ _ | with_reducible assumption | with_reducible refine balloc ?_ _ | with_reducible refine bdrew ?_ | with_reducible refine below_drewN ?_ _ | with_reducible refine bset ?_ ?_ _ | with_reducible exact Nat.le_refl _ | with_reducible refine bsize ?_ | (dsimp only; refine Nat.le_trans ?_ (Nat.le_add_right _ _)) | with_reducible refine Nat.le_trans ?_ (Nat.le_add_right _ _) | (with_reducible refine bstep ?_ (by assumption)))); done) : Below w1.heap.size w1 _) hb9); (have fS := hS.out _ f0); (try replace hown9 := ownsRow_below hown9 (bstep (by first | with_reducible assumption | ((repeat (first | with_reducible exact Below.refl _ _ | with_reducible assumption | with_reducible refine balloc ?_ _ | with_reducible refine bdrew ?_ | with_reducible refine below_drewN ?_ _ | with_reducible refine bset ?_ ?_ _ | with_reducible exact Nat.le_refl _ | with_reducible refine bsize ?_ | (dsimp only; refine Nat.le_trans ?_ (Nat.le_add_right _ _)) | with_reducible refine Nat.le_trans ?_ (Nat.le_add_right _ _) | (with_reducible refine bstep ?_ (by assumption)))); done)) hb9)); (have sz7 := f0.size); go_split_ands) | (go_at_call 19; refine Calls.mono (HS.out _ _ (rowG_own fClue_len (ownsRow_below hown9 (by first | with_reducible assumption | ((repeat (first | with_reducible exact Below.refl _ _ | with_reducible assumption | with_reducible refine balloc ?_ _ | with_reducible refine bdrew ?_ | with_reducible refine below_drewN ?_ _ | with_reducible refine bset ?_ ?_ _ | with_reducible exact Nat.le_refl _ | with_reducible refine bsize ?_ | (dsimp only; refine Nat.le_trans ?_ (Nat.le_add_right _ _)) | with_reducible refine Nat.le_trans ?_ (Nat.le_add_right _ _) | (with_reducible refine bstep ?_ (by assumption)))); done))) HBD.out)) ?_; rintro e9 w9 ⟨v9, rfl, hown8, hb9⟩; (try have fq := Res9.later (by first | with_reducible assumption | with_reducible exact Res9.drew (by with_reducible assumption) | exact Res9.newd _ _ _ _ | exact Res9.new _ _ _ _ | exact Res9.drew (Res9.newd _ _ _ _) | exact Res9.drew (Res9.new _ _ _ _)) hb9); (try (have fq2 := fq; obtain ⟨rx, ry, r1, r2, r3, r4, rz⟩ := fq2)); (have f0 := bstep (by first | with_reducible assumption | ((repeat (first | with_reducible exact Below.refl _ _ | with_reducible assumption | with_reducible refine balloc ?_ _ | with_reducible refine bdrew ?_ | with_reducible refine below_drewN ?_ _ | with_reducible refine bset ?_ ?_ _ | with_reducible exact Nat.le_refl _ | with_reducible refine bsize ?_ | (dsimp only; refine Nat.le_trans ?_ (Nat.le_add_right _ _)) | with_reducible refine Nat.le_trans ?_ (Nat.le_add_right _ _) | (with_reducible refine bstep ?_ (by assumption)))); done) : Below w1.heap.size w1 _) hb9); (have fS := hS.out _ f0); (obtain ⟨a9, c9, rfl⟩ := owns_shape hown8); (have sz9 := f0.size); go_split_ands))
    all_goals (go_wp2_with fail; go_meet)
    all_goals exact ⟨_, .slice a9 rl.length c9, rfl, rfl, ⟨by first | (simp [go_sem]; done) | (simp [go_sem, r1, r2, r3, r4, rz]; done), by first | (simp [go_sem]; done) | (simp [go_sem, r1, r2, r3, r4, rz]; done), by first | (simp; done) | (simp; omega)⟩, by first | exact own_mono (own_alloc hown8 _) (by first | with_reducible assumption | exact Nat.le_refl _ | omega | (simp; done) | (simp; omega)) | exact own_drew (own_mono (own_alloc hown8 _) (by first | with_reducible assumption | exact Nat.le_refl _ | omega | (simp; done) | (simp; omega))) | exact box_soon hown8 (by first | with_reducible assumption | exact Nat.le_refl _ | omega | (simp; done) | (simp; omega)) _ _ (by first | with_reducible assumption | exact Nat.le_refl _ | omega | (simp; done) | (simp; omega)) | exact own_drew (box_soon hown8 (by first | with_reducible assumption | exact Nat.le_refl _ | omega | (simp; done) | (simp; omega)) _ _ (by first | with_reducible assumption | exact Nat.le_refl _ | omega | (simp; done) | (simp; omega))), by ((repeat (first | with_reducible exact Below.refl _ _ | with_reducible assumption | with_reducible refine balloc ?_ _ | with_reducible refine bdrew ?_ | with_reducible refine below_drewN ?_ _ | with_reducible refine bset ?_ ?_ _ | with_reducible exact Nat.le_refl _ | with_reducible refine bsize ?_ | (dsimp only; refine Nat.le_trans ?_ (Nat.le_add_right _ _)) | with_reducible refine Nat.le_trans ?_ (Nat.le_add_right _ _) | (with_reducible refine bstep ?_ (by assumption)))); done), by first | with_reducible assumption | exact Nat.le_refl _ | omega | (simp; done) | (simp; omega), by first | exact own_ne hown8 (by first | with_reducible assumption | exact Nat.le_refl _ | omega | (simp; done) | (simp; omega)) | exact fun e => by (have h := (hown8.lt _ e).2; (first | omega | (simp at h; done) | (simp at h; omega)))⟩
  obtain ⟨w3, hw3⟩ : ∃ y, y = wc := ⟨_, rfl⟩
  subst hw3
  obtain ⟨gB, v3, rfl, rfl, B, hownw, f3, gB1, gB2⟩ := hcut
  obtain ⟨aw, cw, rfl⟩ := owns_shape hownw
  clear hS
  have ha3 := bstep ha1 f3
  clear Ap Aq Az
  clear C0 C1 C2 Cz
  replace A := A.later f3
  clear ha1
  replace C := C.later f3
  have hownw3lt : ∀ x, (Value.slice aw rl.length cw).ownBlock = some x → x < w3.heap.size := fun x h => (hownw.lt x h).2
  have lw3 := ha3.size
  have zA : w.heap.size < w3.heap.size := A.2.2
  have zC : w.heap.size + 1 < w3.heap.size := C.2.2.2
  have zB : gB < w3.heap.size := B.2.2
  obtain ⟨Ap, Aq, Az⟩ := id A
  obtain ⟨Bp, Bq, Bz⟩ := id B
  obtain ⟨C0, C1, C2, Cz⟩ := id C
  go_wp2_with fail; refine (toPz_any m _ l _ (fun W hb => HY.out W (bstep (show Below w.heap.size w _ by first | with_reducible assumption | exact bstep ha3 (by first | with_reducible assumption | ((repeat (first | with_reducible exact Below.refl _ _ | with_reducible assumption | with_reducible refine balloc ?_ _ | with_reducible refine bdrew ?_ | with_reducible refine below_drewN ?_ _ | with_reducible refine bset ?_ ?_ _ | with_reducible exact Nat.le_refl _ | with_reducible refine bsize ?_ | (dsimp only; refine Nat.le_trans ?_ (Nat.le_add_right _ _)) | with_reducible refine Nat.le_trans ?_ (Nat.le_add_right _ _) | (with_reducible refine bstep ?_ (by assumption)))); done)) | ((repeat (first | with_reducible exact Below.refl _ _ | with_reducible assumption | with_reducible refine balloc ?_ _ | with_reducible refine bdrew ?_ | with_reducible refine below_drewN ?_ _ | with_reducible refine bset ?_ ?_ _ | with_reducible exact Nat.le_refl _ | with_reducible refine bsize ?_ | (dsimp only; refine Nat.le_trans ?_ (Nat.le_add_right _ _)) | with_reducible refine Nat.le_trans ?_ (Nat.le_add_right _ _) | (with_reducible refine bstep ?_ (by assumption)))); done)) hb))).mono ?_; rintro e' w4 ⟨g4, rfl, hownx, hb4⟩
  have f4 : Below w3.heap.size w3 w4 := bstep (show Below w3.heap.size w3 _ by (repeat (first | with_reducible exact Below.refl _ _ | with_reducible assumption | with_reducible refine balloc ?_ _ | with_reducible refine bdrew ?_ | with_reducible refine below_drewN ?_ _ | with_reducible refine bset ?_ ?_ _ | with_reducible exact Nat.le_refl _ | with_reducible refine bsize ?_ | (dsimp only; refine Nat.le_trans ?_ (Nat.le_add_right _ _)) | with_reducible refine Nat.le_trans ?_ (Nat.le_add_right _ _) | (with_reducible refine bstep ?_ (by assumption))))) hb4
  have ha4 := bstep ha3 f4
  clear Ap Aq Az Bp Bq Bz
  clear C0 C1 C2 Cz
  replace A := A.later f4
  replace B := B.later f4
  replace hownw := ownsRow_below hownw f4
  clear ha3
  replace C := C.later f4
  have gx : w3.heap.size ≤ g4 := by have := own_block hownx rfl; first | exact this | (simp at this; omega)
  have gx3 : g4 < w4.heap.size := (hownx.lt g4 rfl).2
  have zX : g4 < w4.heap.size := gx3
  have l34 : w3.heap.size ≤ w4.heap.size := f4.size
  clear hb4
  obtain ⟨Ap, Aq, Az⟩ := id A
  obtain ⟨Bp, Bq, Bz⟩ := id B
  obtain ⟨C0, C1, C2, Cz⟩ := id C
  go_upto_region 7 with fail
  obtain ⟨w5, hV⟩ : ∃ y, w4.alloc (.cells #[.int .i64 m, .slice (some ⟨g4, 0, none⟩) l.length l.length] 35) = y := ⟨_, rfl⟩
  have f5 : Below w4.heap.size w4 w5 := by rw [← hV]; exact balloc (Below.refl _ _) _
  have X : PzAt w4.heap.size m (.slice (some ⟨g4, 0, none⟩) l.length l.length) w5 := by rw [← hV]; exact PzAt.new w4 _ _ _
  have l45 : w4.heap.size < w5.heap.size := by rw [← hV]; simp
  rw [hV]
  clear hV
  have ha5 := bstep ha4 f5
  clear Ap Aq Az Bp Bq Bz
  clear C0 C1 C2 Cz
  replace A := A.later f5
  replace B := B.later f5
  replace hownw := ownsRow_below hownw f5
  replace hownx := ownsRow_below hownx f5
  clear ha4
  replace C := C.later f5
  have zG : g4 < w5.heap.size := by omega
  obtain ⟨Ap, Aq, Az⟩ := id A
  obtain ⟨Bp, Bq, Bz⟩ := id B
  obtain ⟨Xp, Xq, Xz⟩ := id X
  obtain ⟨C0, C1, C2, Cz⟩ := id C
  have hS := Lib.hid (fun (W : World) (h9 : Below w5.heap.size w5 W) => (⟨h9, keepa h9 Xz Xp, keepa h9 Xz Xq, keepa h9 Cz C0, keepa h9 Cz C1, keepa h9 Cz C2⟩ : Below w5.heap.size w5 W ∧ W.cell? ⟨w4.heap.size, 0, none⟩ = some (.int .i64 m) ∧ W.cell? ⟨w4.heap.size, 1, none⟩ = some (.slice (some ⟨g4, 0, none⟩) l.length l.length) ∧ W.cell? ⟨w.heap.size + 1, 0, none⟩ = some (.int .i64 x) ∧ W.cell? ⟨w.heap.size + 1, 1, none⟩ = some (.int .i64 a) ∧ W.cell? ⟨w.heap.size + 1, 2, none⟩ = some (.int .i64 b)))
  go_cut [9, 10] (fun s6 s7 wx => BoxP w5 rm rl rb s6 s7 wx)
  case first =>
    go_region_held3 (fun W => Below w5.heap.size w5 W ∧ W.cell? ⟨w4.heap.size, 0, none⟩ = some (.int .i64 m) ∧ W.cell? ⟨w4.heap.size, 1, none⟩ = some (.slice (some ⟨g4, 0, none⟩) l.length l.length) ∧ W.cell? ⟨w.heap.size + 1, 0, none⟩ = some (.int .i64 x) ∧ W.cell? ⟨w.heap.size + 1, 1, none⟩ = some (.int .i64 a) ∧ W.cell? ⟨w.heap.size + 1, 2, none⟩ = some (.int .i64 b)) ((refine hS.out _ ?_; first | with_reducible assumption | ((repeat (first | with_reducible exact Below.refl _ _ | with_reducible assumption | with_reducible refine balloc ?_ _ | with_reducible refine bdrew ?_ | with_reducible refine below_drewN ?_ _ | with_reducible refine bset ?_ ?_ _ | with_reducible exact Nat.le_refl _ | with_reducible refine bsize ?_ | (dsimp only; refine Nat.le_trans ?_ (Nat.le_add_right _ _)) | with_reducible refine Nat.le_trans ?_ (Nat.le_add_right _ _) | (with_reducible refine bstep ?_ (by assumption)))); done))) (first | (go_at_call 8; refine Calls.mono (HC.out _) ?_; rintro e9 w9 ⟨rfl, hb9⟩; (try have fq := Res9.later (by first | with_reducible assumption | with_reducible exact Res9.drew (by with_reducible assumption) | exact Res9.newd _ _ _ _ | exact Res9.new _ _ _ _ | exact Res9.drew (Res9.newd _ _ _ _) | exact Res9.drew (Res9.new _ _ _ _)) hb9); (try (have fq2 := fq; obtain ⟨rx, ry, r1, r2, r3, r4, rz⟩ := fq2)); (have f0 := bstep (by first | with_reducible assumption | ((repeat (first | with_reducible exact Below.refl _ _ | with_reducible assumption | with_reducible refine balloc ?_ _ | with_reducible refine bdrew ?_ | with_reducible refine below_drewN ?_ _ | with_reducible refine bset ?_ ?_ _ | with_reducible exact Nat.le_refl _ | with_reducible refine bsize ?_ | (dsimp only; refine Nat.le_trans ?_ (Nat.le_add_right _ _)) | with_reducible refine Nat.le_trans ?_ (Nat.le_add_right _ _) | (with_reducible refine bstep ?_ (by assumption)))); done) : Below w5.heap.size w5 _) hb9); (have fS := hS.out _ f0); (have sz7 := f0.size); go_split_ands) | (go_at_call 20; refine Calls.mono (HI.out _ _ (rowG_own fClue_len (ownsRow_below hownx (by first | with_reducible assumption | ((repeat (first | with_reducible exact Below.refl _ _ | with_reducible assumption | with_reducible refine balloc ?_ _ | with_reducible refine bdrew ?_ | with_reducible refine below_drewN ?_ _ | with_reducible refine bset ?_ ?_ _ | with_reducible exact Nat.le_refl _ | with_reducible refine bsize ?_ | (dsimp only; refine Nat.le_trans ?_ (Nat.le_add_right _ _)) | with_reducible refine Nat.le_trans ?_ (Nat.le_add_right _ _) | (with_reducible refine bstep ?_ (by assumption)))); done))) HBD.out)) ?_; rintro e9 w9 ⟨v9, rfl, hown8, hb9⟩; (try have fq := Res9.later (by first | with_reducible assumption | with_reducible exact Res9.drew (by with_reducible assumption) | exact Res9.newd _ _ _ _ | exact Res9.new _ _ _ _ | exact Res9.drew (Res9.newd _ _ _ _) | exact Res9.drew (Res9.new _ _ _ _)) hb9); (try (have fq2 := fq; obtain ⟨rx, ry, r1, r2, r3, r4, rz⟩ := fq2)); (have f0 := bstep (by first | with_reducible assumption | ((repeat (first | with_reducible exact Below.refl _ _ | with_reducible assumption | with_reducible refine balloc ?_ _ | with_reducible refine bdrew ?_ | with_reducible refine below_drewN ?_ _ | with_reducible refine bset ?_ ?_ _ | with_reducible exact Nat.le_refl _ | with_reducible refine bsize ?_ | (dsimp only; refine Nat.le_trans ?_ (Nat.le_add_right _ _)) | with_reducible refine Nat.le_trans ?_ (Nat.le_add_right _ _) | (with_reducible refine bstep ?_ (by assumption)))); done) : Below w5.heap.size w5 _) hb9); (have fS := hS.out _ f0); (obtain ⟨a9, c9, rfl⟩ := owns_shape hown8); (have sz9 := f0.size); go_split_ands))
    all_goals (go_wp2_with fail; go_meet)
    all_goals exact ⟨_, .slice a9 rl.length c9, rfl, rfl, ⟨by first | (simp [go_sem]; done) | (simp [go_sem, r1, r2, r3, r4, rz]; done), by first | (simp [go_sem]; done) | (simp [go_sem, r1, r2, r3, r4, rz]; done), by first | (simp; done) | (simp; omega)⟩, by first | exact own_mono (own_alloc hown8 _) (by first | with_reducible assumption | exact Nat.le_refl _ | omega | (simp; done) | (simp; omega)) | exact own_drew (own_mono (own_alloc hown8 _) (by first | with_reducible assumption | exact Nat.le_refl _ | omega | (simp; done) | (simp; omega))) | exact box_soon hown8 (by first | with_reducible assumption | exact Nat.le_refl _ | omega | (simp; done) | (simp; omega)) _ _ (by first | with_reducible assumption | exact Nat.le_refl _ | omega | (simp; done) | (simp; omega)) | exact own_drew (box_soon hown8 (by first | with_reducible assumption | exact Nat.le_refl _ | omega | (simp; done) | (simp; omega)) _ _ (by first | with_reducible assumption | exact Nat.le_refl _ | omega | (simp; done) | (simp; omega))), by ((repeat (first | with_reducible exact Below.refl _ _ | with_reducible assumption | with_reducible refine balloc ?_ _ | with_reducible refine bdrew ?_ | with_reducible refine below_drewN ?_ _ | with_reducible refine bset ?_ ?_ _ | with_reducible exact Nat.le_refl _ | with_reducible refine bsize ?_ | (dsimp only; refine Nat.le_trans ?_ (Nat.le_add_right _ _)) | with_reducible refine Nat.le_trans ?_ (Nat.le_add_right _ _) | (with_reducible refine bstep ?_ (by assumption)))); done), by first | with_reducible assumption | exact Nat.le_refl _ | omega | (simp; done) | (simp; omega), by first | exact own_ne hown8 (by first | with_reducible assumption | exact Nat.le_refl _ | omega | (simp; done) | (simp; omega)) | exact fun e => by (have h := (hown8.lt _ e).2; (first | omega | (simp at h; done) | (simp at h; omega)))⟩
  obtain ⟨w6, hw6⟩ : ∃ y, y = wc := ⟨_, rfl⟩
  subst hw6
  obtain ⟨gG, v5, rfl, rfl, G, howng, f6, gG1, gG2⟩ := hcut
  obtain ⟨ag, cg, rfl⟩ := owns_shape howng
  clear hS
  have ha6 := bstep ha5 f6
  clear Ap Aq Az Bp Bq Bz Xp Xq Xz
  clear C0 C1 C2 Cz
  replace A := A.later f6
  replace B := B.later f6
  replace X := X.later f6
  replace hownw := ownsRow_below hownw f6
  replace hownx := ownsRow_below hownx f6
  clear ha5
  replace C := C.later f6
  have hownglt : ∀ k, (Value.slice ag rl.length cg).ownBlock = some k → w4.heap.size < k := fun k e => by have := own_block howng e; omega
  have ogx : (Value.slice ag rl.length cg).ownBlock = none ∨ (Value.slice ag rl.length cg).ownBlock ≠ some g4 := by
    cases h : (Value.slice ag rl.length cg).ownBlock with
    | none => exact Or.inl rfl
    | some y => exact Or.inr (fun e => by injection e with e; have := hownglt y h; omega)
  have ogw : (Value.slice aw rl.length cw).ownBlock = none ∨ (Value.slice aw rl.length cw).ownBlock ≠ (Value.slice ag rl.length cg).ownBlock := by
    cases h : (Value.slice aw rl.length cw).ownBlock with
    | none => exact Or.inl rfl
    | some y => exact Or.inr (fun e => by have h1 := hownglt y e.symm; have h2 := hownw3lt y h; omega)
  obtain ⟨Ap, Aq, Az⟩ := id A
  obtain ⟨Bp, Bq, Bz⟩ := id B
  obtain ⟨Xp, Xq, Xz⟩ := id X
  obtain ⟨Gp, Gq, Gz⟩ := id G
  obtain ⟨C0, C1, C2, Cz⟩ := id C
  go_wp2_with fail; refine (eqPz_same rm _ _ _ (fun W hb => eqr_clues _ _ _ _ _ W hr2 (ownsRow_below howng (bstep (show Below w6.heap.size w6 _ by first | with_reducible assumption | ((repeat (first | with_reducible exact Below.refl _ _ | with_reducible assumption | with_reducible refine balloc ?_ _ | with_reducible refine bdrew ?_ | with_reducible refine below_drewN ?_ _ | with_reducible refine bset ?_ ?_ _ | with_reducible exact Nat.le_refl _ | with_reducible refine bsize ?_ | (dsimp only; refine Nat.le_trans ?_ (Nat.le_add_right _ _)) | with_reducible refine Nat.le_trans ?_ (Nat.le_add_right _ _) | (with_reducible refine bstep ?_ (by assumption)))); done)) hb)) (ownsRow_below hownw (bstep (show Below w6.heap.size w6 _ by first | with_reducible assumption | ((repeat (first | with_reducible exact Below.refl _ _ | with_reducible assumption | with_reducible refine balloc ?_ _ | with_reducible refine bdrew ?_ | with_reducible refine below_drewN ?_ _ | with_reducible refine bset ?_ ?_ _ | with_reducible exact Nat.le_refl _ | with_reducible refine bsize ?_ | (dsimp only; refine Nat.le_trans ?_ (Nat.le_add_right _ _)) | with_reducible refine Nat.le_trans ?_ (Nat.le_add_right _ _) | (with_reducible refine bstep ?_ (by assumption)))); done)) hb)))).mono ?_; rintro e' w7 ⟨rfl, hb7⟩
  have f7 : Below w6.heap.size w6 w7 := bstep (show Below w6.heap.size w6 _ by (repeat (first | with_reducible exact Below.refl _ _ | with_reducible assumption | with_reducible refine balloc ?_ _ | with_reducible refine bdrew ?_ | with_reducible refine below_drewN ?_ _ | with_reducible refine bset ?_ ?_ _ | with_reducible exact Nat.le_refl _ | with_reducible refine bsize ?_ | (dsimp only; refine Nat.le_trans ?_ (Nat.le_add_right _ _)) | with_reducible refine Nat.le_trans ?_ (Nat.le_add_right _ _) | (with_reducible refine bstep ?_ (by assumption))))) hb7
  have ha7 := bstep ha6 f7
  clear Ap Aq Az Bp Bq Bz Xp Xq Xz Gp Gq Gz
  clear C0 C1 C2 Cz
  replace A := A.later f7
  replace B := B.later f7
  replace X := X.later f7
  replace G := G.later f7
  replace hownw := ownsRow_below hownw f7
  replace hownx := ownsRow_below hownx f7
  replace howng := ownsRow_below howng f7
  clear ha6
  replace C := C.later f7
  clear hb7
  obtain ⟨Ap, Aq, Az⟩ := id A
  obtain ⟨Bp, Bq, Bz⟩ := id B
  obtain ⟨Xp, Xq, Xz⟩ := id X
  obtain ⟨Gp, Gq, Gz⟩ := id G
  obtain ⟨C0, C1, C2, Cz⟩ := id C
  go_upto_region 10 with fail
  have hS1 := Lib.hid (fun (W : World) (h : Below w7.heap.size w7 W) => (⟨h, keepa h Az Ap, keepa h Az Aq, keepa h Xz Xp, keepa h Xz Xq⟩ : Below w7.heap.size w7 W ∧ W.cell? ⟨w.heap.size, 0, none⟩ = some (.int .i64 m) ∧ W.cell? ⟨w.heap.size, 1, none⟩ = some (.slice sa l.length cap) ∧ W.cell? ⟨w4.heap.size, 0, none⟩ = some (.int .i64 m) ∧ W.cell? ⟨w4.heap.size, 1, none⟩ = some (.slice (some ⟨g4, 0, none⟩) l.length l.length)))
  clear Ap Aq Az Bp Bq Bz Xp Xq Xz Gp Gq Gz
  clear C0 C1 C2 Cz
  refine wp_region_noPanic ?_
  refine wp_region_held_drew (S := (fun W => Below w7.heap.size w7 W ∧ W.cell? ⟨w.heap.size, 0, none⟩ = some (.int .i64 m) ∧ W.cell? ⟨w.heap.size, 1, none⟩ = some (.slice sa l.length cap) ∧ W.cell? ⟨w4.heap.size, 0, none⟩ = some (.int .i64 m) ∧ W.cell? ⟨w4.heap.size, 1, none⟩ = some (.slice (some ⟨g4, 0, none⟩) l.length l.length))) (by kernel_rfl) ?_ (fun hHeld0 => ?_)
  · (try dsimp only); (refine hS1.out _ ?_; (first | with_reducible assumption | ((repeat (first | with_reducible exact Below.refl _ _ | with_reducible assumption | with_reducible refine balloc ?_ _ | with_reducible refine bdrew ?_ | with_reducible refine below_drewN ?_ _ | with_reducible refine bset ?_ ?_ _ | with_reducible exact Nat.le_refl _ | with_reducible refine bsize ?_ | (dsimp only; refine Nat.le_trans ?_ (Nat.le_add_right _ _)) | with_reducible refine Nat.le_trans ?_ (Nat.le_add_right _ _) | (with_reducible refine bstep ?_ (by assumption)))); done)))
  (refine wpAnyH_take (i := 0) (oi := { dst := some 47, op := Op.load 35 (Operand.tmp 8), type := 35, pos := "exact.go:3550", after := #[], guard := none }) (v := ?_) rfl (by kernel_rfl) (by kernel_rfl) (by kernel_rfl) (fun _ _ _ h => h) (Or.inl ⟨by rfl, ?_⟩) (by assumption) ?_; rotate_left; (focus (intro w hSw; (try dsimp only at hSw); go_simp; try with_reducible rfl)); (try simp only [Act.put, List.setIfInBounds_toArray, List.set_cons_zero, List.set_cons_succ]))
  (refine wpAnyH_take (i := 1) (oi := { dst := some 48, op := Op.load 30 (Operand.tmp 2), type := 30, pos := "exact.go:3550", after := #[], guard := none }) (v := ?_) rfl (by kernel_rfl) (by kernel_rfl) (by kernel_rfl) (fun _ _ _ h => h) (Or.inl ⟨by rfl, ?_⟩) (by assumption) ?_; rotate_left; (focus (intro w hSw; (try dsimp only at hSw); go_simp; try with_reducible rfl)); (try simp only [Act.put, List.setIfInBounds_toArray, List.set_cons_zero, List.set_cons_succ]))
  (refine wpAnyH_ready (rs := [2]) (by kernel_rfl) (by simp) ?_; refine AllReadyH.cons (o := { dst := some 49, op := Op.call { callee := Callee.value (Operand.func 12), args := #[Operand.tmp 48], argTypes := #[30] }, type := 35, pos := "exact.go:3550", after := #[{ on := 1, ground := Ground.data }], guard := none }) rfl (fun K hK => ?_) AllReadyH.nil; go_simp; (first | (refine (toPz_any m _ l _ (fun W hb => HY.out W (bstep (show Below w.heap.size w _ by first | exact ha7 | exact bdrew ha7 | ((repeat (first | with_reducible exact Below.refl _ _ | with_reducible assumption | with_reducible refine balloc ?_ _ | with_reducible refine bdrew ?_ | with_reducible refine below_drewN ?_ _ | with_reducible refine bset ?_ ?_ _ | with_reducible exact Nat.le_refl _ | with_reducible refine bsize ?_ | (dsimp only; refine Nat.le_trans ?_ (Nat.le_add_right _ _)) | with_reducible refine Nat.le_trans ?_ (Nat.le_add_right _ _) | (with_reducible refine bstep ?_ (by assumption)))); done)) hb))).mono ?_; rintro en w8 ⟨g8, rfl, hown8, hb8⟩; (have f8 : Below w7.heap.size w7 w8 := bstep (by first | with_reducible assumption | ((repeat (first | with_reducible exact Below.refl _ _ | with_reducible assumption | with_reducible refine balloc ?_ _ | with_reducible refine bdrew ?_ | with_reducible refine below_drewN ?_ _ | with_reducible refine bset ?_ ?_ _ | with_reducible exact Nat.le_refl _ | with_reducible refine bsize ?_ | (dsimp only; refine Nat.le_trans ?_ (Nat.le_add_right _ _)) | with_reducible refine Nat.le_trans ?_ (Nat.le_add_right _ _) | (with_reducible refine bstep ?_ (by assumption)))); done)) hb8)) | (refine (eqPz_same m _ _ _ (fun W hb => eqr_clues _ _ _ _ _ W hn (ownsRow_below hownx (bstep (show Below w7.heap.size w7 _ by first | with_reducible assumption | ((repeat (first | with_reducible exact Below.refl _ _ | with_reducible assumption | with_reducible refine balloc ?_ _ | with_reducible refine bdrew ?_ | with_reducible refine below_drewN ?_ _ | with_reducible refine bset ?_ ?_ _ | with_reducible exact Nat.le_refl _ | with_reducible refine bsize ?_ | (dsimp only; refine Nat.le_trans ?_ (Nat.le_add_right _ _)) | with_reducible refine Nat.le_trans ?_ (Nat.le_add_right _ _) | (with_reducible refine bstep ?_ (by assumption)))); done)) hb)) (ownsRow_below hown8 (by first | with_reducible assumption | ((repeat (first | with_reducible exact Below.refl _ _ | with_reducible assumption | with_reducible refine balloc ?_ _ | with_reducible refine bdrew ?_ | with_reducible refine below_drewN ?_ _ | with_reducible refine bset ?_ ?_ _ | with_reducible exact Nat.le_refl _ | with_reducible refine bsize ?_ | (dsimp only; refine Nat.le_trans ?_ (Nat.le_add_right _ _)) | with_reducible refine Nat.le_trans ?_ (Nat.le_add_right _ _) | (with_reducible refine bstep ?_ (by assumption)))); done))))).mono ?_; rintro en w9 ⟨rfl, hb9⟩; (have f9 : Below w7.heap.size w7 w9 := bstep (by first | with_reducible assumption | ((repeat (first | with_reducible exact Below.refl _ _ | with_reducible assumption | with_reducible refine balloc ?_ _ | with_reducible refine bdrew ?_ | with_reducible refine below_drewN ?_ _ | with_reducible refine bset ?_ ?_ _ | with_reducible exact Nat.le_refl _ | with_reducible refine bsize ?_ | (dsimp only; refine Nat.le_trans ?_ (Nat.le_add_right _ _)) | with_reducible refine Nat.le_trans ?_ (Nat.le_add_right _ _) | (with_reducible refine bstep ?_ (by assumption)))); done)) hb9))); (first | refine hK.out _ _ ?_ (fun hHeld1 => ?_) | (go_wp2_with fail; refine hK.out _ _ ?_ (fun hHeld1 => ?_))); (focus ((try dsimp only); (refine hS1.out _ ?_; (first | with_reducible assumption | ((repeat (first | with_reducible exact Below.refl _ _ | with_reducible assumption | with_reducible refine balloc ?_ _ | with_reducible refine bdrew ?_ | with_reducible refine below_drewN ?_ _ | with_reducible refine bset ?_ ?_ _ | with_reducible exact Nat.le_refl _ | with_reducible refine bsize ?_ | (dsimp only; refine Nat.le_trans ?_ (Nat.le_add_right _ _)) | with_reducible refine Nat.le_trans ?_ (Nat.le_add_right _ _) | (with_reducible refine bstep ?_ (by assumption)))); done))))); clear hK K; (try clear hHeld0); (try simp only [Act.put, List.setIfInBounds_toArray, List.set_cons_zero, List.set_cons_succ]))
  (refine wpAnyH_ready (rs := [3]) (by kernel_rfl) (by simp) ?_; refine AllReadyH.cons (o := { dst := some 50, op := Op.call { callee := Callee.value (Operand.func 14), args := #[Operand.tmp 47, Operand.tmp 49], argTypes := #[35, 35] }, type := 4, pos := "exact.go:3550", after := #[{ on := 0, ground := Ground.data }, { on := 2, ground := Ground.data }, { on := 2, ground := Ground.chain }], guard := none }) rfl (fun K hK => ?_) AllReadyH.nil; go_simp; (first | (refine (toPz_any m _ l _ (fun W hb => HY.out W (bstep (show Below w.heap.size w _ by first | exact ha7 | exact bdrew ha7 | ((repeat (first | with_reducible exact Below.refl _ _ | with_reducible assumption | with_reducible refine balloc ?_ _ | with_reducible refine bdrew ?_ | with_reducible refine below_drewN ?_ _ | with_reducible refine bset ?_ ?_ _ | with_reducible exact Nat.le_refl _ | with_reducible refine bsize ?_ | (dsimp only; refine Nat.le_trans ?_ (Nat.le_add_right _ _)) | with_reducible refine Nat.le_trans ?_ (Nat.le_add_right _ _) | (with_reducible refine bstep ?_ (by assumption)))); done)) hb))).mono ?_; rintro en w8 ⟨g8, rfl, hown8, hb8⟩; (have f8 : Below w7.heap.size w7 w8 := bstep (by first | with_reducible assumption | ((repeat (first | with_reducible exact Below.refl _ _ | with_reducible assumption | with_reducible refine balloc ?_ _ | with_reducible refine bdrew ?_ | with_reducible refine below_drewN ?_ _ | with_reducible refine bset ?_ ?_ _ | with_reducible exact Nat.le_refl _ | with_reducible refine bsize ?_ | (dsimp only; refine Nat.le_trans ?_ (Nat.le_add_right _ _)) | with_reducible refine Nat.le_trans ?_ (Nat.le_add_right _ _) | (with_reducible refine bstep ?_ (by assumption)))); done)) hb8)) | (refine (eqPz_same m _ _ _ (fun W hb => eqr_clues _ _ _ _ _ W hn (ownsRow_below hownx (bstep (show Below w7.heap.size w7 _ by first | with_reducible assumption | ((repeat (first | with_reducible exact Below.refl _ _ | with_reducible assumption | with_reducible refine balloc ?_ _ | with_reducible refine bdrew ?_ | with_reducible refine below_drewN ?_ _ | with_reducible refine bset ?_ ?_ _ | with_reducible exact Nat.le_refl _ | with_reducible refine bsize ?_ | (dsimp only; refine Nat.le_trans ?_ (Nat.le_add_right _ _)) | with_reducible refine Nat.le_trans ?_ (Nat.le_add_right _ _) | (with_reducible refine bstep ?_ (by assumption)))); done)) hb)) (ownsRow_below hown8 (by first | with_reducible assumption | ((repeat (first | with_reducible exact Below.refl _ _ | with_reducible assumption | with_reducible refine balloc ?_ _ | with_reducible refine bdrew ?_ | with_reducible refine below_drewN ?_ _ | with_reducible refine bset ?_ ?_ _ | with_reducible exact Nat.le_refl _ | with_reducible refine bsize ?_ | (dsimp only; refine Nat.le_trans ?_ (Nat.le_add_right _ _)) | with_reducible refine Nat.le_trans ?_ (Nat.le_add_right _ _) | (with_reducible refine bstep ?_ (by assumption)))); done))))).mono ?_; rintro en w9 ⟨rfl, hb9⟩; (have f9 : Below w7.heap.size w7 w9 := bstep (by first | with_reducible assumption | ((repeat (first | with_reducible exact Below.refl _ _ | with_reducible assumption | with_reducible refine balloc ?_ _ | with_reducible refine bdrew ?_ | with_reducible refine below_drewN ?_ _ | with_reducible refine bset ?_ ?_ _ | with_reducible exact Nat.le_refl _ | with_reducible refine bsize ?_ | (dsimp only; refine Nat.le_trans ?_ (Nat.le_add_right _ _)) | with_reducible refine Nat.le_trans ?_ (Nat.le_add_right _ _) | (with_reducible refine bstep ?_ (by assumption)))); done)) hb9))); (first | refine hK.out _ _ ?_ (fun hHeld2 => ?_) | (go_wp2_with fail; refine hK.out _ _ ?_ (fun hHeld2 => ?_))); (focus ((try dsimp only); (refine hS1.out _ ?_; (first | with_reducible assumption | ((repeat (first | with_reducible exact Below.refl _ _ | with_reducible assumption | with_reducible refine balloc ?_ _ | with_reducible refine bdrew ?_ | with_reducible refine below_drewN ?_ _ | with_reducible refine bset ?_ ?_ _ | with_reducible exact Nat.le_refl _ | with_reducible refine bsize ?_ | (dsimp only; refine Nat.le_trans ?_ (Nat.le_add_right _ _)) | with_reducible refine Nat.le_trans ?_ (Nat.le_add_right _ _) | (with_reducible refine bstep ?_ (by assumption)))); done))))); clear hK K; (try clear hHeld1); (try simp only [Act.put, List.setIfInBounds_toArray, List.set_cons_zero, List.set_cons_succ]))
  (refine wpAnyH_take (i := 4) (oi := { dst := some 51, op := Op.unOp UnOp.not 4 (Operand.tmp 50), type := 4, pos := "exact.go:3550", after := #[{ on := 3, ground := Ground.data }], guard := none }) (v := ?_) rfl (by kernel_rfl) (by kernel_rfl) (by kernel_rfl) (fun _ _ _ h => h) (Or.inl ⟨by rfl, ?_⟩) (by assumption) ?_; rotate_left; (focus (intro w hSw; (try dsimp only at hSw); go_simp; try with_reducible rfl)); (try simp only [Act.put, List.setIfInBounds_toArray, List.set_cons_zero, List.set_cons_succ]))
  refine wpAnyH_done (by kernel_rfl) ?_ _
  (try refine NoPanic.normal ?_)
  have ha9 := bstep ha7 f9
  replace A := A.later f9
  replace B := B.later f9
  replace X := X.later f9
  replace G := G.later f9
  replace C := C.later f9
  replace hownw := ownsRow_below hownw f9
  replace hownx := ownsRow_below hownx f9
  replace howng := ownsRow_below howng f9
  clear hS1 hb8 f8 hown8 hb9 f9 ha7
  have hneg1 : ¬ (1 + 3 * (l.length : Int) < 0) := by omega
  have oxw : (Value.slice aw rl.length cw).ownBlock = none ∨ (Value.slice aw rl.length cw).ownBlock ≠ some g4 := by
    cases h : (Value.slice aw rl.length cw).ownBlock with
    | none => exact Or.inl rfl
    | some y => exact Or.inr (fun e => by injection e with e; have := hownw3lt y h; omega)
  obtain ⟨Ap, Aq, Az⟩ := id A
  obtain ⟨Bp, Bq, Bz⟩ := id B
  obtain ⟨Xp, Xq, Xz⟩ := id X
  obtain ⟨Gp, Gq, Gz⟩ := id G
  obtain ⟨C0, C1, C2, Cz⟩ := id C
  go_wp2_with fail; refine (markPz_any m _ _ _ 1 _ _ hn (by omega) (by omega) hownx).mono ?_; rintro e' w10 ⟨rfl, hgr, ysN, hN, hallN⟩
  clear Ap Aq Az Bp Bq Bz Xp Xq Xz Gp Gq Gz
  clear C0 C1 C2 Cz
  have gx2 : ∀ k, (Value.slice (some ⟨g4, 0, none⟩) l.length l.length).ownBlock = some k → w3.heap.size ≤ k := fun k e => by (have e2 : g4 = k := by simpa [Value.ownBlock] using e); omega
  have ha10 : Below w.heap.size w w10 := ha9.grown hgr ha9.size (fun k e => Nat.le_trans lw3 (gx2 k e))
  replace A := A.grown hgr (fun e => by have h9 : g4 = _ := (by simpa [Value.ownBlock] using e.symm); have := zA; omega)
  replace B := B.grown hgr (fun e => by have h9 : g4 = _ := (by simpa [Value.ownBlock] using e.symm); have := zB; omega)
  replace G := G.grown hgr (fun e => by have h9 : g4 = _ := (by simpa [Value.ownBlock] using e.symm); have := zG; omega)
  replace C := C.grown hgr (fun e => by have h9 : g4 = _ := (by simpa [Value.ownBlock] using e.symm); have := zC; omega)
  replace hownw := hownw.kept hgr oxw
  replace howng := howng.kept hgr ogx
  clear hgr hallN hN hownx ha9 oxw ogx X
  obtain ⟨Ap, Aq, Az⟩ := id A
  obtain ⟨Bp, Bq, Bz⟩ := id B
  obtain ⟨Gp, Gq, Gz⟩ := id G
  obtain ⟨C0, C1, C2, Cz⟩ := id C
  go_wp2_with fail; refine (eqPz_same rm _ _ _ (fun W hb => eqr_clues _ _ _ _ _ W hr2 (ownsRow_below howng (bstep (show Below w10.heap.size w10 _ by first | with_reducible assumption | ((repeat (first | with_reducible exact Below.refl _ _ | with_reducible assumption | with_reducible refine balloc ?_ _ | with_reducible refine bdrew ?_ | with_reducible refine below_drewN ?_ _ | with_reducible refine bset ?_ ?_ _ | with_reducible exact Nat.le_refl _ | with_reducible refine bsize ?_ | (dsimp only; refine Nat.le_trans ?_ (Nat.le_add_right _ _)) | with_reducible refine Nat.le_trans ?_ (Nat.le_add_right _ _) | (with_reducible refine bstep ?_ (by assumption)))); done)) hb)) (ownsRow_below hownw (bstep (show Below w10.heap.size w10 _ by first | with_reducible assumption | ((repeat (first | with_reducible exact Below.refl _ _ | with_reducible assumption | with_reducible refine balloc ?_ _ | with_reducible refine bdrew ?_ | with_reducible refine below_drewN ?_ _ | with_reducible refine bset ?_ ?_ _ | with_reducible exact Nat.le_refl _ | with_reducible refine bsize ?_ | (dsimp only; refine Nat.le_trans ?_ (Nat.le_add_right _ _)) | with_reducible refine Nat.le_trans ?_ (Nat.le_add_right _ _) | (with_reducible refine bstep ?_ (by assumption)))); done)) hb)))).mono ?_; rintro e' w11 ⟨rfl, hb11⟩
  have f11 : Below w10.heap.size w10 w11 := bstep (show Below w10.heap.size w10 _ by (repeat (first | with_reducible exact Below.refl _ _ | with_reducible assumption | with_reducible refine balloc ?_ _ | with_reducible refine bdrew ?_ | with_reducible refine below_drewN ?_ _ | with_reducible refine bset ?_ ?_ _ | with_reducible exact Nat.le_refl _ | with_reducible refine bsize ?_ | (dsimp only; refine Nat.le_trans ?_ (Nat.le_add_right _ _)) | with_reducible refine Nat.le_trans ?_ (Nat.le_add_right _ _) | (with_reducible refine bstep ?_ (by assumption))))) hb11
  have ha11 := bstep ha10 f11
  clear Ap Aq Az Bp Bq Bz Gp Gq Gz
  clear C0 C1 C2 Cz
  replace A := A.later f11
  replace B := B.later f11
  replace G := G.later f11
  replace hownw := ownsRow_below hownw f11
  replace howng := ownsRow_below howng f11
  clear ha10
  replace C := C.later f11
  clear hb11
  obtain ⟨Ap, Aq, Az⟩ := id A
  obtain ⟨Bp, Bq, Bz⟩ := id B
  obtain ⟨Gp, Gq, Gz⟩ := id G
  obtain ⟨C0, C1, C2, Cz⟩ := id C
  go_wp2_with fail; refine (markPz_any rm _ _ _ 1 _ _ hr3 (by omega) (by omega) howng).mono ?_; rintro e' w12 ⟨rfl, hgr, ysM, hM, hallM⟩
  clear Ap Aq Az Bp Bq Bz Gp Gq Gz
  clear C0 C1 C2 Cz
  have ha12 : Below w.heap.size w w12 := ha11.grown hgr ha11.size (fun k e => by have := hownglt k e; omega)
  replace A := A.grown hgr (fun e => by have h9 := hownglt _ e.symm; have := zA; omega)
  replace B := B.grown hgr (fun e => by have h9 := hownglt _ e.symm; have := zB; omega)
  replace C := C.grown hgr (fun e => by have h9 := hownglt _ e.symm; have := zC; omega)
  replace G := G.grown hgr (fun e => gG2 e.symm)
  replace hownw := hownw.kept hgr ogw
  have HYM := Lib.hid hallM
  clear hgr hallM howng ha11 ogw
  have hneg : ¬ (1 + 3 * (rl.length : Int) < 0) := by omega
  obtain ⟨Ap, Aq, Az⟩ := id A
  obtain ⟨Bp, Bq, Bz⟩ := id B
  obtain ⟨Gp, Gq, Gz⟩ := id G
  obtain ⟨C0, C1, C2, Cz⟩ := id C
  go_wp2_with fail; refine (heldPz_any rm _ _ _ 1 _ _ hr3 (by omega) (by omega) hM HYM.out).mono ?_; rintro e' w13 ⟨rfl, hb13⟩
  have f13 : Below w12.heap.size w12 w13 := bstep (show Below w12.heap.size w12 _ by (repeat (first | with_reducible exact Below.refl _ _ | with_reducible assumption | with_reducible refine balloc ?_ _ | with_reducible refine bdrew ?_ | with_reducible refine below_drewN ?_ _ | with_reducible refine bset ?_ ?_ _ | with_reducible exact Nat.le_refl _ | with_reducible refine bsize ?_ | (dsimp only; refine Nat.le_trans ?_ (Nat.le_add_right _ _)) | with_reducible refine Nat.le_trans ?_ (Nat.le_add_right _ _) | (with_reducible refine bstep ?_ (by assumption))))) hb13
  have ha13 := bstep ha12 f13
  clear Ap Aq Az Bp Bq Bz Gp Gq Gz
  clear C0 C1 C2 Cz
  replace A := A.later f13
  replace B := B.later f13
  replace G := G.later f13
  replace hownw := ownsRow_below hownw f13
  replace hM := ownsRow_below hM f13
  clear ha12
  replace C := C.later f13
  clear hb13
  obtain ⟨Ap, Aq, Az⟩ := id A
  obtain ⟨Bp, Bq, Bz⟩ := id B
  obtain ⟨Gp, Gq, Gz⟩ := id G
  obtain ⟨C0, C1, C2, Cz⟩ := id C
  go_upto_region 24 with fail
  have hS := Lib.hid (fun (W : World) (h9 : Below w13.heap.size w13 W) => (⟨h9, keepa h9 Az Ap, keepa h9 Az Aq, keepa h9 Cz C0, keepa h9 Cz C1, keepa h9 Cz C2⟩ : Below w13.heap.size w13 W ∧ W.cell? ⟨w.heap.size, 0, none⟩ = some (.int .i64 m) ∧ W.cell? ⟨w.heap.size, 1, none⟩ = some (.slice sa l.length cap) ∧ W.cell? ⟨w.heap.size + 1, 0, none⟩ = some (.int .i64 x) ∧ W.cell? ⟨w.heap.size + 1, 1, none⟩ = some (.int .i64 a) ∧ W.cell? ⟨w.heap.size + 1, 2, none⟩ = some (.int .i64 b)))
  go_cut [14, 15] (fun s6 s7 wx => BoxP w13 rm rl rb s6 s7 wx)
  case first =>
    go_region_held3 (fun W => Below w13.heap.size w13 W ∧ W.cell? ⟨w.heap.size, 0, none⟩ = some (.int .i64 m) ∧ W.cell? ⟨w.heap.size, 1, none⟩ = some (.slice sa l.length cap) ∧ W.cell? ⟨w.heap.size + 1, 0, none⟩ = some (.int .i64 x) ∧ W.cell? ⟨w.heap.size + 1, 1, none⟩ = some (.int .i64 a) ∧ W.cell? ⟨w.heap.size + 1, 2, none⟩ = some (.int .i64 b)) ((refine hS.out _ ?_; first | with_reducible assumption | ((repeat (first | with_reducible exact Below.refl _ _ | with_reducible assumption | with_reducible refine balloc ?_ _ | with_reducible refine bdrew ?_ | with_reducible refine below_drewN ?_ _ | with_reducible refine bset ?_ ?_ _ | with_reducible exact Nat.le_refl _ | with_reducible refine bsize ?_ | (dsimp only; refine Nat.le_trans ?_ (Nat.le_add_right _ _)) | with_reducible refine Nat.le_trans ?_ (Nat.le_add_right _ _) | (with_reducible refine bstep ?_ (by assumption)))); done))) (first | (go_at_call 12; refine Calls.mono (toPz_any m _ l _ (fun W hb => HY.out W (bstep (show Below w.heap.size w _ by first | with_reducible assumption | exact bstep ha13 (by first | with_reducible assumption | ((repeat (first | with_reducible exact Below.refl _ _ | with_reducible assumption | with_reducible refine balloc ?_ _ | with_reducible refine bdrew ?_ | with_reducible refine below_drewN ?_ _ | with_reducible refine bset ?_ ?_ _ | with_reducible exact Nat.le_refl _ | with_reducible refine bsize ?_ | (dsimp only; refine Nat.le_trans ?_ (Nat.le_add_right _ _)) | with_reducible refine Nat.le_trans ?_ (Nat.le_add_right _ _) | (with_reducible refine bstep ?_ (by assumption)))); done)) | ((repeat (first | with_reducible exact Below.refl _ _ | with_reducible assumption | with_reducible refine balloc ?_ _ | with_reducible refine bdrew ?_ | with_reducible refine below_drewN ?_ _ | with_reducible refine bset ?_ ?_ _ | with_reducible exact Nat.le_refl _ | with_reducible refine bsize ?_ | (dsimp only; refine Nat.le_trans ?_ (Nat.le_add_right _ _)) | with_reducible refine Nat.le_trans ?_ (Nat.le_add_right _ _) | (with_reducible refine bstep ?_ (by assumption)))); done)) hb))) ?_; rintro e9 w9 ⟨g9, rfl, hown9, hb9⟩; (try have fq := Res9.later (by first | with_reducible assumption | with_reducible exact Res9.drew (by with_reducible assumption) | exact Res9.newd _ _ _ _ | exact Res9.new _ _ _ _ | exact Res9.drew (Res9.newd _ _ _ _) | exact Res9.drew (Res9.new _ _ _ _)) hb9); (try (have fq2 := fq; obtain ⟨rx, ry, r1, r2, r3, r4, rz⟩ := fq2)); (have f0 := bstep (by first | with_reducible assumption | ((repeat (first | with_reducible exact Below.refl _ _ | with_reducible assumption | with_reducible refine balloc ?_ _ | with_reducible refine bdrew ?_ | with_reducible refine below_drewN ?_ _ | with_reducible refine bset ?_ ?_ _ | with_reducible exact Nat.le_refl _ | with_reducible refine bsize ?_ | (dsimp only; refine Nat.le_trans ?_ (Nat.le_add_right _ _)) | with_reducible refine Nat.le_trans ?_ (Nat.le_add_right _ _) | (with_reducible refine bstep ?_ (by assumption)))); done) : Below w13.heap.size w13 _) hb9); (have fS := hS.out _ f0); (have sz8 := f0.size); go_split_ands) | (go_at_call 8; refine Calls.mono (HC.out _) ?_; rintro e9 w9 ⟨rfl, hb9⟩; (try have fq := Res9.later (by first | with_reducible assumption | with_reducible exact Res9.drew (by with_reducible assumption) | exact Res9.newd _ _ _ _ | exact Res9.new _ _ _ _ | exact Res9.drew (Res9.newd _ _ _ _) | exact Res9.drew (Res9.new _ _ _ _)) hb9); (try (have fq2 := fq; obtain ⟨rx, ry, r1, r2, r3, r4, rz⟩ := fq2)); (have f0 := bstep (by first | with_reducible assumption | ((repeat (first | with_reducible exact Below.refl _ _ | with_reducible assumption | with_reducible refine balloc ?_ _ | with_reducible refine bdrew ?_ | with_reducible refine below_drewN ?_ _ | with_reducible refine bset ?_ ?_ _ | with_reducible exact Nat.le_refl _ | with_reducible refine bsize ?_ | (dsimp only; refine Nat.le_trans ?_ (Nat.le_add_right _ _)) | with_reducible refine Nat.le_trans ?_ (Nat.le_add_right _ _) | (with_reducible refine bstep ?_ (by assumption)))); done) : Below w13.heap.size w13 _) hb9); (have fS := hS.out _ f0); (try replace hown9 := ownsRow_below hown9 (bstep (by first | with_reducible assumption | ((repeat (first | with_reducible exact Below.refl _ _ | with_reducible assumption | with_reducible refine balloc ?_ _ | with_reducible refine bdrew ?_ | with_reducible refine below_drewN ?_ _ | with_reducible refine bset ?_ ?_ _ | with_reducible exact Nat.le_refl _ | with_reducible refine bsize ?_ | (dsimp only; refine Nat.le_trans ?_ (Nat.le_add_right _ _)) | with_reducible refine Nat.le_trans ?_ (Nat.le_add_right _ _) | (with_reducible refine bstep ?_ (by assumption)))); done)) hb9)); (have sz7 := f0.size); go_split_ands) | (go_at_call 20; refine Calls.mono (HI.out _ _ (rowG_own fClue_len (ownsRow_below hown9 (by first | with_reducible assumption | ((repeat (first | with_reducible exact Below.refl _ _ | with_reducible assumption | with_reducible refine balloc ?_ _ | with_reducible refine bdrew ?_ | with_reducible refine below_drewN ?_ _ | with_reducible refine bset ?_ ?_ _ | with_reducible exact Nat.le_refl _ | with_reducible refine bsize ?_ | (dsimp only; refine Nat.le_trans ?_ (Nat.le_add_right _ _)) | with_reducible refine Nat.le_trans ?_ (Nat.le_add_right _ _) | (with_reducible refine bstep ?_ (by assumption)))); done))) HBD.out)) ?_; rintro e9 w9 ⟨v9, rfl, hown8, hb9⟩; (try have fq := Res9.later (by first | with_reducible assumption | with_reducible exact Res9.drew (by with_reducible assumption) | exact Res9.newd _ _ _ _ | exact Res9.new _ _ _ _ | exact Res9.drew (Res9.newd _ _ _ _) | exact Res9.drew (Res9.new _ _ _ _)) hb9); (try (have fq2 := fq; obtain ⟨rx, ry, r1, r2, r3, r4, rz⟩ := fq2)); (have f0 := bstep (by first | with_reducible assumption | ((repeat (first | with_reducible exact Below.refl _ _ | with_reducible assumption | with_reducible refine balloc ?_ _ | with_reducible refine bdrew ?_ | with_reducible refine below_drewN ?_ _ | with_reducible refine bset ?_ ?_ _ | with_reducible exact Nat.le_refl _ | with_reducible refine bsize ?_ | (dsimp only; refine Nat.le_trans ?_ (Nat.le_add_right _ _)) | with_reducible refine Nat.le_trans ?_ (Nat.le_add_right _ _) | (with_reducible refine bstep ?_ (by assumption)))); done) : Below w13.heap.size w13 _) hb9); (have fS := hS.out _ f0); (obtain ⟨a9, c9, rfl⟩ := owns_shape hown8); (have sz9 := f0.size); go_split_ands))
    all_goals (go_wp2_with fail; go_meet)
    all_goals exact ⟨_, .slice a9 rl.length c9, rfl, rfl, ⟨by first | (simp [go_sem]; done) | (simp [go_sem, r1, r2, r3, r4, rz]; done), by first | (simp [go_sem]; done) | (simp [go_sem, r1, r2, r3, r4, rz]; done), by first | (simp; done) | (simp; omega)⟩, by first | exact own_mono (own_alloc hown8 _) (by first | with_reducible assumption | exact Nat.le_refl _ | omega | (simp; done) | (simp; omega)) | exact own_drew (own_mono (own_alloc hown8 _) (by first | with_reducible assumption | exact Nat.le_refl _ | omega | (simp; done) | (simp; omega))) | exact box_soon hown8 (by first | with_reducible assumption | exact Nat.le_refl _ | omega | (simp; done) | (simp; omega)) _ _ (by first | with_reducible assumption | exact Nat.le_refl _ | omega | (simp; done) | (simp; omega)) | exact own_drew (box_soon hown8 (by first | with_reducible assumption | exact Nat.le_refl _ | omega | (simp; done) | (simp; omega)) _ _ (by first | with_reducible assumption | exact Nat.le_refl _ | omega | (simp; done) | (simp; omega))), by ((repeat (first | with_reducible exact Below.refl _ _ | with_reducible assumption | with_reducible refine balloc ?_ _ | with_reducible refine bdrew ?_ | with_reducible refine below_drewN ?_ _ | with_reducible refine bset ?_ ?_ _ | with_reducible exact Nat.le_refl _ | with_reducible refine bsize ?_ | (dsimp only; refine Nat.le_trans ?_ (Nat.le_add_right _ _)) | with_reducible refine Nat.le_trans ?_ (Nat.le_add_right _ _) | (with_reducible refine bstep ?_ (by assumption)))); done), by first | with_reducible assumption | exact Nat.le_refl _ | omega | (simp; done) | (simp; omega), by first | exact own_ne hown8 (by first | with_reducible assumption | exact Nat.le_refl _ | omega | (simp; done) | (simp; omega)) | exact fun e => by (have h := (hown8.lt _ e).2; (first | omega | (simp at h; done) | (simp at h; omega)))⟩
  obtain ⟨w16, hw16⟩ : ∃ y, y = wc := ⟨_, rfl⟩
  subst hw16
  obtain ⟨gH, v20, rfl, rfl, H, hown20, f16, gH1, gH2⟩ := hcut
  obtain ⟨a20, c20, rfl⟩ := owns_shape hown20
  clear hS
  have ha16 := bstep ha13 f16
  clear Ap Aq Az Bp Bq Bz Gp Gq Gz
  clear C0 C1 C2 Cz
  replace A := A.later f16
  replace B := B.later f16
  replace G := G.later f16
  replace hownw := ownsRow_below hownw f16
  replace hM := ownsRow_below hM f16
  clear ha13
  replace C := C.later f16
  obtain ⟨Ap, Aq, Az⟩ := id A
  obtain ⟨Bp, Bq, Bz⟩ := id B
  obtain ⟨Gp, Gq, Gz⟩ := id G
  obtain ⟨Hp, Hq, Hz⟩ := id H
  obtain ⟨C0, C1, C2, Cz⟩ := id C
  go_wp2_with fail; refine (eqPz_same rm _ _ _ (fun W hb => eqr_clues _ _ _ _ _ W hr2 (ownsRow_below hown20 (bstep (show Below w16.heap.size w16 _ by first | with_reducible assumption | ((repeat (first | with_reducible exact Below.refl _ _ | with_reducible assumption | with_reducible refine balloc ?_ _ | with_reducible refine bdrew ?_ | with_reducible refine below_drewN ?_ _ | with_reducible refine bset ?_ ?_ _ | with_reducible exact Nat.le_refl _ | with_reducible refine bsize ?_ | (dsimp only; refine Nat.le_trans ?_ (Nat.le_add_right _ _)) | with_reducible refine Nat.le_trans ?_ (Nat.le_add_right _ _) | (with_reducible refine bstep ?_ (by assumption)))); done)) hb)) (ownsRow_below hownw (bstep (show Below w16.heap.size w16 _ by first | with_reducible assumption | ((repeat (first | with_reducible exact Below.refl _ _ | with_reducible assumption | with_reducible refine balloc ?_ _ | with_reducible refine bdrew ?_ | with_reducible refine below_drewN ?_ _ | with_reducible refine bset ?_ ?_ _ | with_reducible exact Nat.le_refl _ | with_reducible refine bsize ?_ | (dsimp only; refine Nat.le_trans ?_ (Nat.le_add_right _ _)) | with_reducible refine Nat.le_trans ?_ (Nat.le_add_right _ _) | (with_reducible refine bstep ?_ (by assumption)))); done)) hb)))).mono ?_; rintro e' w17 ⟨rfl, hb17⟩
  have f17 : Below w16.heap.size w16 w17 := bstep (show Below w16.heap.size w16 _ by (repeat (first | with_reducible exact Below.refl _ _ | with_reducible assumption | with_reducible refine balloc ?_ _ | with_reducible refine bdrew ?_ | with_reducible refine below_drewN ?_ _ | with_reducible refine bset ?_ ?_ _ | with_reducible exact Nat.le_refl _ | with_reducible refine bsize ?_ | (dsimp only; refine Nat.le_trans ?_ (Nat.le_add_right _ _)) | with_reducible refine Nat.le_trans ?_ (Nat.le_add_right _ _) | (with_reducible refine bstep ?_ (by assumption))))) hb17
  have ha17 := bstep ha16 f17
  clear Ap Aq Az Bp Bq Bz Gp Gq Gz Hp Hq Hz
  clear C0 C1 C2 Cz
  replace A := A.later f17
  replace B := B.later f17
  replace G := G.later f17
  replace H := H.later f17
  replace hownw := ownsRow_below hownw f17
  replace hM := ownsRow_below hM f17
  replace hown20 := ownsRow_below hown20 f17
  clear ha16
  replace C := C.later f17
  clear hb17 hown20 hownw
  obtain ⟨Ap, Aq, Az⟩ := id A
  obtain ⟨Bp, Bq, Bz⟩ := id B
  obtain ⟨Gp, Gq, Gz⟩ := id G
  obtain ⟨Hp, Hq, Hz⟩ := id H
  obtain ⟨C0, C1, C2, Cz⟩ := id C
  go_wp2_with fail; refine (heldPz_any rm _ _ _ 1 _ _ hr3 (by omega) (by omega) hM HYM.out).mono ?_; rintro e' w18 ⟨rfl, hb18⟩
  have f18 : Below w17.heap.size w17 w18 := bstep (show Below w17.heap.size w17 _ by (repeat (first | with_reducible exact Below.refl _ _ | with_reducible assumption | with_reducible refine balloc ?_ _ | with_reducible refine bdrew ?_ | with_reducible refine below_drewN ?_ _ | with_reducible refine bset ?_ ?_ _ | with_reducible exact Nat.le_refl _ | with_reducible refine bsize ?_ | (dsimp only; refine Nat.le_trans ?_ (Nat.le_add_right _ _)) | with_reducible refine Nat.le_trans ?_ (Nat.le_add_right _ _) | (with_reducible refine bstep ?_ (by assumption))))) hb18
  have ha18 := bstep ha17 f18
  clear Ap Aq Az Bp Bq Bz Gp Gq Gz Hp Hq Hz
  clear C0 C1 C2 Cz
  replace A := A.later f18
  replace B := B.later f18
  replace G := G.later f18
  replace H := H.later f18
  replace hM := ownsRow_below hM f18
  clear ha17
  replace C := C.later f18
  go_wp2
  go_ret
  exact ⟨rfl, ha18⟩

theorem addClue_walk_long (m : Int) (x a b : Int) (sa : Option Addr) (k cap : Nat) (w : World) (hn : 1048576 < k) (hn2 : k ≤ 9223372036854775807) :
    Calls Try.prog 6 #[.agg #[.int .i64 m, .slice sa k cap], .agg #[.int .i64 x, .int .i64 a, .int .i64 b]] w fun e' w' => e' = .returned (.bool true) ∧ Below w.heap.size w w' := by
  have hsz := fun W => sz_pz m sa k cap W hn2
  have HS := Lib.hid hsz
  clear hsz
  go_enter Try.func6, Try.ntmps6
  go_wp2_with fail; refine (HS.out _).mono ?_; rintro e' w1 ⟨rfl, hb1⟩
  rw [if_neg (by omega)]
  have ha1 : Below w.heap.size w w1 := by (repeat (first | with_reducible exact Below.refl _ _ | with_reducible assumption | with_reducible refine balloc ?_ _ | with_reducible refine bdrew ?_ | with_reducible refine below_drewN ?_ _ | with_reducible refine bset ?_ ?_ _ | with_reducible exact Nat.le_refl _ | with_reducible refine bsize ?_ | (dsimp only; refine Nat.le_trans ?_ (Nat.le_add_right _ _)) | with_reducible refine Nat.le_trans ?_ (Nat.le_add_right _ _) | (with_reducible refine bstep ?_ (by assumption))))
  go_wp2
  go_ret
  exact ⟨rfl, ha1⟩

/-- The law at every puzzle and every clue. -/
theorem addClue_walk (m : Int) (bm : (-9223372036854775808 ≤ m ∧ m ≤ 9223372036854775807)) (v : Value) (w0 : World) (h : AnyG 3 fClue w0 v) (x a b : Int) (bx : (-9223372036854775808 ≤ x ∧ x ≤ 9223372036854775807)) (ba : (-9223372036854775808 ≤ a ∧ a ≤ 9223372036854775807)) (bb : (-9223372036854775808 ≤ b ∧ b ≤ 9223372036854775807)) (w : World) (ew : w0 = w := by rfl) :
    Calls Try.prog 6 #[.agg #[.int .i64 m, v], .agg #[.int .i64 x, .int .i64 a, .int .i64 b]] w fun e' w' => e' = .returned (.bool true) ∧ Below w.heap.size w w' := by
  subst ew
  rcases h with rfl | ⟨ad, cap, l, rfl, hL⟩
  · exact addClue_walk_of m bm x a b bx ba bb none 0 ([] : List ClueV) w0 (by simp) (by simp) (fun W _ => to_clues_nil W) (adL_len m [] x a b (by first | exact hn | simp)) (fun W v h => add_spec m bm v [] x a b bx ba bb W h) (fun W v h => add_impl m bm v [] x a b bx ba bb W h)
  · by_cases hn : l.length ≤ 1048576
    · exact addClue_walk_of m bm x a b bx ba bb (some ad) cap l w0 hn hL.hbd (fun W hb => to_clues_some ad cap l W (liesG_below hL hb) hn) (adL_len m l x a b (by first | exact hn | simp)) (fun W v h => add_spec m bm v l x a b bx ba bb W h) (fun W v h => add_impl m bm v l x a b bx ba bb W h)
    · exact addClue_walk_long _ _ _ _ _ _ _ _ (by omega) (by have := hL.hlc; have := hL.hcap; omega)
end Go.Proofs.Ythhmmdapoaeeiaa
