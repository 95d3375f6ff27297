/- The law FnExactUnitParts, for every amount (also what is none): the program answers as the model, and its answer owns its memory. No condition. -/
import Derived.Test.YtlfbnogkbdgnaaaLawBase
import Derived.Test.YtlfbnogkbdgnaaaInts
import Derived.Test.YtlfbnogkbdgnaaaUpI
namespace Go.Proofs.Ytlfbnogkbdgnaaa
open Go.ChangeShapes Go.WideShapes Go.ChangeAt Go.RowKit Go.Joins
set_option linter.unusedVariables false
set_option linter.unusedSimpArgs false

theorem upF_len : ∀ (j : Nat) (n d : Int) (l : List Int), upF j n d = some l → l.length ≤ j := by
  intro j
  induction j with
  | zero => intro n d l h; unfold upF at h; split at h <;> simp at h; subst h; simp
  | succ j ih =>
    intro n d l h
    unfold upF at h
    split at h
    · simp at h; subst h; simp
    · split at h
      · simp only [Option.map_eq_some_iff] at h
        obtain ⟨l', h1, rfl⟩ := h
        have := ih _ _ _ h1
        simp; omega
      · simp at h
theorem upO_len (n d : Int) : ((upO n d).getD []).length ≤ 6 := by
  unfold upO
  split
  · cases h : upF 6 n d with
    | none => simp
    | some l => simpa using upF_len 6 n d l h
  · simp

theorem up_spec (n d : Int) (bn : -9223372036854775808 ≤ n ∧ n ≤ 9223372036854775807) (bd : -9223372036854775808 ≤ d ∧ d ≤ 9223372036854775807) (w : World) :
    Calls Try.prog 49 #[.agg #[.int .i64 n, .int .i64 d]] w (UpPost (upO n d) w) := by
  unfold upO
  by_cases h : amB n d = true ∧ n < d
  · rw [if_pos h]; exact up_spec_yes n d h.1 h.2 w
  · rw [if_neg h]; exact up_spec_no n d bn bd h w
theorem up_impl (n d : Int) (bn : -9223372036854775808 ≤ n ∧ n ≤ 9223372036854775807) (bd : -9223372036854775808 ≤ d ∧ d ≤ 9223372036854775807) (w : World) :
    Calls Try.prog 50 #[.agg #[.int .i64 n, .int .i64 d]] w (UpPost (upO n d) w) := by
  unfold upO
  by_cases h : amB n d = true ∧ n < d
  · rw [if_pos h]; exact up_impl_yes n d h.1 h.2 w
  · rw [if_neg h]; exact up_impl_no n d bn bd h w

/-- The ending with no fraction, or with some. -/
def EndNil (b : Bool) (w : World) (e : Ending) (w' : World) : Prop := ∃ a c, e = .returned (.tuple #[.slice a 0 c, .bool b]) ∧ Below w.heap.size w w'
def EndRow (l : List Int) (b : Bool) (w : World) (e : Ending) (w' : World) : Prop :=
  ∃ g c, e = .returned (.tuple #[.slice (some ⟨g, 0, none⟩) l.length c, .bool b]) ∧ w'.ownsRow w.heap.size 3 1 (.slice (some ⟨g, 0, none⟩) l.length c) l.length (l.map (Value.int .i64)) ∧ Below w.heap.size w w'
theorem end_nil {o : Option (List Int)} (h : o.getD [] = []) {w : World} {e : Ending} {w' : World} (hp : UpPost o w e w') : EndNil o.isSome w e w' := by
  obtain ⟨v, rfl, hown, hb⟩ := hp
  rw [h] at hown
  obtain ⟨a, c, rfl⟩ := owns_shape hown
  exact ⟨a, c, rfl, hb⟩
theorem end_row {o : Option (List Int)} (h : o.getD [] ≠ []) {w : World} {e : Ending} {w' : World} (hp : UpPost o w e w') : EndRow (o.getD []) o.isSome w e w' := by
  obtain ⟨v, rfl, hown, hb⟩ := hp
  have hown' := hown
  obtain ⟨_, hs⟩ := hown
  rcases hs with ⟨_, h0⟩ | ⟨g', cap, cur, rfl, _⟩
  · exact absurd (List.length_eq_zero_iff.1 h0) h
  · exact ⟨g', cap, rfl, hown', hb⟩

theorem row_reads {w : World} {base g c : Nat} {l : List Int} (h : w.ownsRow base 3 1 (.slice (some ⟨g, 0, none⟩) l.length c) l.length (l.map (Value.int .i64))) :
    ∀ (i : Nat) (x : Int), l[i]? = some x → w.cell? ⟨g, i, none⟩ = some (.int .i64 x) := by
  intro i x hx
  have hi : i < l.length := (List.getElem?_eq_some_iff.1 hx).1
  rw [h.cellAt i (by omega)]
  exact mapInt_get l i x hx
theorem row_keeps {w w' : World} {g : Nat} {l : List Int} (hb : Below w.heap.size w w') (hg : g < w.heap.size) (h : ∀ (i : Nat) (x : Int), l[i]? = some x → w.cell? ⟨g, i, none⟩ = some (.int .i64 x)) :
    ∀ (i : Nat) (x : Int), l[i]? = some x → w'.cell? ⟨g, i, none⟩ = some (.int .i64 x) := fun i x hx => keepa hb hg (h i x hx)
theorem mark_keeps {w w' : World} {g n : Nat} (hb : Below w.heap.size w w') (hg : g < w.heap.size) (h : ∀ i : Nat, i < n → w.cell? ⟨g, i, none⟩ = some (.int .i64 (1 + (i : Int)))) :
    ∀ i : Nat, i < n → w'.cell? ⟨g, i, none⟩ = some (.int .i64 (1 + (i : Int))) := fun i hi => keepa hb hg (h i hi)

set_option maxHeartbeats 1600000 in
theorem upl_nil (n d : Int) (b : Bool) (hs : ∀ W, Calls Try.prog 49 #[.agg #[.int .i64 n, .int .i64 d]] W (EndNil b W)) (hi : ∀ W, Calls Try.prog 50 #[.agg #[.int .i64 n, .int .i64 d]] W (EndNil b W)) (w : World) :
    Calls Try.prog 16 #[.agg #[.int .i64 n, .int .i64 d]] w fun e w' => e = .returned (.bool true) ∧ Below w.heap.size w w' := by
  go_enter Try.func16, Try.ntmps16
  (go_wp2_with fail; refine (toAmt _ _ _).mono ?_; rintro e w1 ⟨rfl, hb1⟩; have ha1 := hb1; obtain ⟨kc1, kf1, kz1, ky1, kx1, kv1, ku1⟩ := bcell hb1)
  go_wp2_with fail; refine (hs _).mono ?_; rintro e w2 ⟨a2, c2, rfl, hb2⟩
  have ha2 := bjoin ha1 hb2 (by (repeat (first | exact Below.refl _ _ | assumption | refine balloc ?_ _ | refine bdrew ?_ | refine bset ?_ ?_ _ | exact Nat.le_refl _ | refine bsize ?_ | (dsimp only; refine Nat.le_trans ?_ (Nat.le_add_right _ _)) | refine Nat.le_trans ?_ (Nat.le_add_right _ _) | (refine bstep ?_ (by assumption)))))
  obtain ⟨kc2, kf2, kz2, ky2, kx2, kv2, ku2⟩ := bcell hb2; obtain ⟨jc2, jf2, jz2, jy2, jx2, jv2, ju2⟩ := bcell ha2
  (go_wp2_with fail; refine (toAmt _ _ _).mono ?_; rintro e w3 ⟨rfl, hb3⟩; have ha3 := bjoin ha2 hb3 (by (repeat (first | exact Below.refl _ _ | assumption | refine balloc ?_ _ | refine bdrew ?_ | refine bset ?_ ?_ _ | exact Nat.le_refl _ | refine bsize ?_ | (dsimp only; refine Nat.le_trans ?_ (Nat.le_add_right _ _)) | refine Nat.le_trans ?_ (Nat.le_add_right _ _) | (refine bstep ?_ (by assumption))))); obtain ⟨kc3, kf3, kz3, ky3, kx3, kv3, ku3⟩ := bcell hb3; obtain ⟨jc3, jf3, jz3, jy3, jx3, jv3, ju3⟩ := bcell ha3)
  go_wp2_with fail; refine (hi _).mono ?_; rintro e w4 ⟨a4, c4, rfl, hb4⟩
  have ha4 := bjoin ha3 hb4 (by (repeat (first | exact Below.refl _ _ | assumption | refine balloc ?_ _ | refine bdrew ?_ | refine bset ?_ ?_ _ | exact Nat.le_refl _ | refine bsize ?_ | (dsimp only; refine Nat.le_trans ?_ (Nat.le_add_right _ _)) | refine Nat.le_trans ?_ (Nat.le_add_right _ _) | (refine bstep ?_ (by assumption)))))
  obtain ⟨kc4, kf4, kz4, ky4, kx4, kv4, ku4⟩ := bcell hb4; obtain ⟨jc4, jf4, jz4, jy4, jx4, jv4, ju4⟩ := bcell ha4
  (go_wp2_with fail; refine (eq_ints_nil _ _ _ _ _).mono ?_; rintro e w5 ⟨rfl, hb5⟩; have ha5 := bjoin ha4 hb5 (by (repeat (first | exact Below.refl _ _ | assumption | refine balloc ?_ _ | refine bdrew ?_ | refine bset ?_ ?_ _ | exact Nat.le_refl _ | refine bsize ?_ | (dsimp only; refine Nat.le_trans ?_ (Nat.le_add_right _ _)) | refine Nat.le_trans ?_ (Nat.le_add_right _ _) | (refine bstep ?_ (by assumption))))); obtain ⟨kc5, kf5, kz5, ky5, kx5, kv5, ku5⟩ := bcell hb5; obtain ⟨jc5, jf5, jz5, jy5, jx5, jv5, ju5⟩ := bcell ha5)
  go_wp2_with fail; refine (mark_ints_nil _ _ _).mono ?_; rintro e w6 ⟨rfl, rfl⟩
  (go_wp2_with fail; refine (held_ints_nil _ _ _).mono ?_; rintro e w7 ⟨rfl, hb7⟩; have ha7 := bjoin ha5 hb7 (by (repeat (first | exact Below.refl _ _ | assumption | refine balloc ?_ _ | refine bdrew ?_ | refine bset ?_ ?_ _ | exact Nat.le_refl _ | refine bsize ?_ | (dsimp only; refine Nat.le_trans ?_ (Nat.le_add_right _ _)) | refine Nat.le_trans ?_ (Nat.le_add_right _ _) | (refine bstep ?_ (by assumption))))); obtain ⟨kc7, kf7, kz7, ky7, kx7, kv7, ku7⟩ := bcell hb7; obtain ⟨jc7, jf7, jz7, jy7, jx7, jv7, ju7⟩ := bcell ha7)
  (go_wp2_with fail; refine (toAmt _ _ _).mono ?_; rintro e w8 ⟨rfl, hb8⟩; have ha8 := bjoin ha7 hb8 (by (repeat (first | exact Below.refl _ _ | assumption | refine balloc ?_ _ | refine bdrew ?_ | refine bset ?_ ?_ _ | exact Nat.le_refl _ | refine bsize ?_ | (dsimp only; refine Nat.le_trans ?_ (Nat.le_add_right _ _)) | refine Nat.le_trans ?_ (Nat.le_add_right _ _) | (refine bstep ?_ (by assumption))))); obtain ⟨kc8, kf8, kz8, ky8, kx8, kv8, ku8⟩ := bcell hb8; obtain ⟨jc8, jf8, jz8, jy8, jx8, jv8, ju8⟩ := bcell ha8)
  go_wp2_with fail; refine (hi _).mono ?_; rintro e w9 ⟨a9, c9, rfl, hb9⟩
  have ha9 := bjoin ha8 hb9 (by (repeat (first | exact Below.refl _ _ | assumption | refine balloc ?_ _ | refine bdrew ?_ | refine bset ?_ ?_ _ | exact Nat.le_refl _ | refine bsize ?_ | (dsimp only; refine Nat.le_trans ?_ (Nat.le_add_right _ _)) | refine Nat.le_trans ?_ (Nat.le_add_right _ _) | (refine bstep ?_ (by assumption)))))
  obtain ⟨kc9, kf9, kz9, ky9, kx9, kv9, ku9⟩ := bcell hb9; obtain ⟨jc9, jf9, jz9, jy9, jx9, jv9, ju9⟩ := bcell ha9
  (go_wp2_with fail; refine (eq_ints_nil _ _ _ _ _).mono ?_; rintro e w10 ⟨rfl, hb10⟩; have ha10 := bjoin ha9 hb10 (by (repeat (first | exact Below.refl _ _ | assumption | refine balloc ?_ _ | refine bdrew ?_ | refine bset ?_ ?_ _ | exact Nat.le_refl _ | refine bsize ?_ | (dsimp only; refine Nat.le_trans ?_ (Nat.le_add_right _ _)) | refine Nat.le_trans ?_ (Nat.le_add_right _ _) | (refine bstep ?_ (by assumption))))); obtain ⟨kc10, kf10, kz10, ky10, kx10, kv10, ku10⟩ := bcell hb10; obtain ⟨jc10, jf10, jz10, jy10, jx10, jv10, ju10⟩ := bcell ha10)
  (go_wp2_with fail; refine (held_ints_nil _ _ _).mono ?_; rintro e w11 ⟨rfl, hb11⟩; have ha11 := bjoin ha10 hb11 (by (repeat (first | exact Below.refl _ _ | assumption | refine balloc ?_ _ | refine bdrew ?_ | refine bset ?_ ?_ _ | exact Nat.le_refl _ | refine bsize ?_ | (dsimp only; refine Nat.le_trans ?_ (Nat.le_add_right _ _)) | refine Nat.le_trans ?_ (Nat.le_add_right _ _) | (refine bstep ?_ (by assumption))))); obtain ⟨kc11, kf11, kz11, ky11, kx11, kv11, ku11⟩ := bcell hb11; obtain ⟨jc11, jf11, jz11, jy11, jx11, jv11, ju11⟩ := bcell ha11)
  go_wp2
  go_ret
  refine ⟨rfl, ?_⟩
  (repeat (first | exact Below.refl _ _ | assumption | refine balloc ?_ _ | refine bdrew ?_ | refine bset ?_ ?_ _ | exact Nat.le_refl _ | refine bsize ?_ | (dsimp only; refine Nat.le_trans ?_ (Nat.le_add_right _ _)) | refine Nat.le_trans ?_ (Nat.le_add_right _ _) | (refine bstep ?_ (by assumption))))

set_option maxHeartbeats 3200000 in
theorem upl_some (n d : Int) (b : Bool) (l : List Int) (hl : l.length ≤ 6) (hs : ∀ W, Calls Try.prog 49 #[.agg #[.int .i64 n, .int .i64 d]] W (EndRow l b W)) (hi : ∀ W, Calls Try.prog 50 #[.agg #[.int .i64 n, .int .i64 d]] W (EndRow l b W)) (w : World) :
    Calls Try.prog 16 #[.agg #[.int .i64 n, .int .i64 d]] w fun e w' => e = .returned (.bool true) ∧ Below w.heap.size w w' := by
  have hl2 : l.length ≤ 9223372036854775807 := by omega
  have hl3 : l.length ≤ 1000000 := by omega
  go_enter Try.func16, Try.ntmps16
  (go_wp2_with fail; refine (toAmt _ _ _).mono ?_; rintro e w1 ⟨rfl, hb1⟩; have ha1 := hb1; obtain ⟨kc1, kf1, kz1, ky1, kx1, kv1, ku1⟩ := bcell hb1)
  have p0 : w1.cell? ⟨w.heap.size, 0, none⟩ = some (.int .i64 n) := (kc1 _ _ (by simp)).trans (by simp [go_sem])
  have p1 : w1.cell? ⟨w.heap.size, 1, none⟩ = some (.int .i64 d) := (kc1 _ _ (by simp)).trans (by simp [go_sem])
  have ps : w.heap.size < w1.heap.size := kz1 _ (by simp)
  have hA1 : Below w.heap.size w w1 := by (repeat (first | exact Below.refl _ _ | assumption | refine balloc ?_ _ | refine bdrew ?_ | refine bset ?_ ?_ _ | exact Nat.le_refl _ | refine bsize ?_ | (dsimp only; refine Nat.le_trans ?_ (Nat.le_add_right _ _)) | refine Nat.le_trans ?_ (Nat.le_add_right _ _) | (refine bstep ?_ (by assumption))))
  clear kc1 kf1 kz1 ky1 kx1 kv1 ku1 ha1
  go_wp2_with fail; refine (hs _).mono ?_; rintro e w2 ⟨g2, c2, rfl, hown2, hb2⟩
  have hA2 := bstep hA1 hb2
  have r2 := row_reads hown2
  have l2 : w1.heap.size ≤ g2 := own_block hown2 rfl
  have s2 : g2 < w2.heap.size := own_lt hown2 rfl
  replace p0 := keepa hb2 ps p0
  replace p1 := keepa hb2 ps p1
  clear hown2
  go_wp2_with fail; refine (toAmt _ _ _).mono ?_; rintro e w3 ⟨rfl, hb3⟩
  have hA3 := bstep hA2 hb3
  have z12 := hb2.size
  have ps2 : w.heap.size < w2.heap.size := by omega
  replace p0 := keepa hb3 ps2 p0
  replace p1 := keepa hb3 ps2 p1
  replace r2 := row_keeps hb3 s2 r2
  have z23 := hb3.size
  go_wp2_with fail; refine (hi _).mono ?_; rintro e w4 ⟨g4, c4, rfl, hown4, hb4⟩
  have hA4 := bstep hA3 hb4
  have r4 := row_reads hown4
  have l4 : w3.heap.size ≤ g4 := own_block hown4 rfl
  have s4 : g4 < w4.heap.size := own_lt hown4 rfl
  have z34 := hb4.size
  replace p0 := keepa hb4 (by omega) p0
  replace p1 := keepa hb4 (by omega) p1
  replace r2 := row_keeps hb4 (by omega) r2
  have n42 : g4 ≠ g2 := by omega
  have n4w : g4 ≠ w.heap.size := by omega
  have s2' : g2 < w4.heap.size := by omega
  have psw : w.heap.size < w4.heap.size := by omega
  have l4w : w.heap.size ≤ g4 := by omega
  clear hb1 hb2 hb3 hb4 hA1 hA2 hA3 l2 l4 s2 z12 z23 z34 ps ps2
  have R2 := Lib.hid r2
  clear r2
  go_wp2_with fail; refine (eq_ints_some _ _ _ _ _ _ s4 s2' hl2 r4 R2.out).mono ?_; rintro e w5 ⟨rfl, hb5⟩
  have hA5 := bstep hA4 hb5
  have z45 := hb5.size
  replace p0 := keepa hb5 psw p0
  replace p1 := keepa hb5 psw p1
  have r2 := row_keeps hb5 s2' R2.out
  have hown5 := ownsRow_below hown4 hb5
  clear R2 r4 hown4 hA4 hb5
  have R2 := Lib.hid r2
  clear r2
  go_wp2_with fail; refine (mark_ints_some _ _ _ _ _ _ hl3 hown5).mono ?_; rintro e w6 ⟨rfl, hgr, ys, hown6, hall⟩
  have z56 := hgr.size
  have hA6 : Below w.heap.size w w6 := hA5.grown hgr hA5.size (fun k e => by cases e; exact l4w)
  replace p0 := hgr.cell p0 (fun e => n4w (Option.some.inj e).symm)
  replace p1 := hgr.cell p1 (fun e => n4w (Option.some.inj e).symm)
  have R2' : ∀ (i : Nat) (x : Int), l[i]? = some x → w6.cell? ⟨g2, i, none⟩ = some (.int .i64 x) := fun i x h => hgr.cell (R2.out i x h) (fun e => n42 (Option.some.inj e).symm)
  have r4 : ∀ i : Nat, i < l.length → w6.cell? ⟨g4, i, none⟩ = some (.int .i64 (1 + (i : Int))) := fun i h => (hown6.cellAt i (by omega)).trans (hall i h)
  have s46 : g4 < w6.heap.size := by omega
  have s26 : g2 < w6.heap.size := by omega
  have sw6 : w.heap.size < w6.heap.size := by omega
  clear R2 hown5 hown6 hall hgr hA5 z45 z56 s4 s2' psw
  have R2 := Lib.hid R2'
  have R4 := Lib.hid r4
  clear R2' r4
  go_wp2_with fail; refine (held_ints_some _ _ _ _ hl3 s46 R4.out).mono ?_; rintro e w7 ⟨rfl, hb7⟩
  have hA7 := bstep hA6 hb7
  have z67 := hb7.size
  replace p0 := keepa hb7 sw6 p0
  replace p1 := keepa hb7 sw6 p1
  have r2 := row_keeps hb7 s26 R2.out
  have r4 := mark_keeps hb7 s46 R4.out
  have s47 : g4 < w7.heap.size := by omega
  have s27 : g2 < w7.heap.size := by omega
  have sw7 : w.heap.size < w7.heap.size := by omega
  clear R2 R4 hb7 hA6 z67 s46 s26 sw6
  have R2 := Lib.hid r2
  have R4 := Lib.hid r4
  clear r2 r4
  have hneg : ¬ (1 + (l.length : Int) < 0) := by omega
  go_wp2_with fail; refine (toAmt _ _ _).mono ?_; rintro e w8 ⟨rfl, hb8⟩
  have hA8 := bstep hA7 hb8
  have z78 := hb8.size
  have r2 := row_keeps hb8 s27 R2.out
  have r4 := mark_keeps hb8 s47 R4.out
  have s48 : g4 < w8.heap.size := by omega
  have s28 : g2 < w8.heap.size := by omega
  clear R2 R4 hb8 hA7 z78 s47 s27 p0 p1
  have R2 := Lib.hid r2
  have R4 := Lib.hid r4
  clear r2 r4
  go_wp2_with fail; refine (hi _).mono ?_; rintro e w9 ⟨g9, c9, rfl, hown9, hb9⟩
  have hA9 := bstep hA8 hb9
  have z89 := hb9.size
  have r9 := row_reads hown9
  have s9 : g9 < w9.heap.size := own_lt hown9 rfl
  have r2 := row_keeps hb9 s28 R2.out
  have r4 := mark_keeps hb9 s48 R4.out
  have s49 : g4 < w9.heap.size := by omega
  have s29 : g2 < w9.heap.size := by omega
  clear R2 R4 hb9 hA8 z89 s48 s28 hown9
  have R2 := Lib.hid r2
  have R4 := Lib.hid r4
  have R9 := Lib.hid r9
  clear r2 r4 r9
  go_wp2_with fail; refine (eq_ints_some _ _ _ _ _ _ s9 s29 hl2 R9.out R2.out).mono ?_; rintro e w10 ⟨rfl, hb10⟩
  have hA10 := bstep hA9 hb10
  have z910 := hb10.size
  have r4 := mark_keeps hb10 s49 R4.out
  have s410 : g4 < w10.heap.size := by omega
  clear R2 R4 R9 hb10 hA9 z910 s49 s29 s9
  have R4 := Lib.hid r4
  clear r4
  go_wp2_with fail; refine (held_ints_some _ _ _ _ hl3 s410 R4.out).mono ?_; rintro e w11 ⟨rfl, hb11⟩
  have hA11 := bstep hA10 hb11
  clear R4 hA10 s410
  go_wp2
  go_ret
  exact ⟨rfl, hA11⟩

theorem up_walk (n d : Int) (bn : -9223372036854775808 ≤ n ∧ n ≤ 9223372036854775807) (bd : -9223372036854775808 ≤ d ∧ d ≤ 9223372036854775807) (w : World) :
    Calls Try.prog 16 #[.agg #[.int .i64 n, .int .i64 d]] w fun e w' => e = .returned (.bool true) ∧ Below w.heap.size w w' := by
  by_cases h : (upO n d).getD [] = []
  · exact upl_nil n d (upO n d).isSome (fun W => (up_spec n d bn bd W).mono fun e w' hp => end_nil h hp) (fun W => (up_impl n d bn bd W).mono fun e w' hp => end_nil h hp) w
  · exact upl_some n d (upO n d).isSome _ (upO_len n d) (fun W => (up_spec n d bn bd W).mono fun e w' hp => end_row h hp) (fun W => (up_impl n d bn bd W).mono fun e w' hp => end_row h hp) w
namespace fnExactUnitParts
set_option maxRecDepth 100000 in
theorem lifted (os : Os) (started : os.Started) (H : Type) (enc : TypeId × Value → H) :
    ReturnsInHanded {} Try.checked os 16 .any (Rows.fnExactUnitPartsSpec.pre6 enc Try.prog Try.f16 Rows.fnExactUnitPartsRow.domain false) (Rows.fnExactUnitPartsSpec.post enc Try.prog Try.f16 false true false false) := by
  refine returnsInHanded_of_change (C := Try.checked) own started (by kernel_rfl) Try.func16
    (ChangeSpec.witness6 (enc := enc) (C := Try.checked) false ⟨#[], #[.agg #[.int .i64 0, .int .i64 0]], []⟩ 8 (by kernel_rfl) (by kernel_rfl) (by kernel_rfl) (by kernel_rfl)) ?_
  intro W base args ds gs before hval0 hW hcnd _
  have hval : ∀ (j : Nat) t v, Try.f16.params[j]? = some t → args[j]? = some v → Value.okWide Try.prog W .any base t v := hval0
  have hW' := hW
  obtain ⟨p, q, hA0, hV, rfl, hfz, hnd⟩ := hW
  have hA : DataW.TrodAll enc Try.prog W 0 (fun _ => true) true Try.f16.params.toList args.toList ds p := hA0
  rw [Try.params16] at hA hval
  obtain ⟨v0, vs0, d0, ds0, p0, q0, hargs, rfl, rfl, h0, r0⟩ := trodAll_cons hA
  obtain ⟨rfl, rfl, rfl⟩ := trodAll_nil r0
  obtain rfl : args = #[v0] := by cases args; simp_all
  obtain ⟨rfl, rfl⟩ := trodVars_none hV
  have k0 := h0
  have lt0 : ∀ x ∈ p0, x.block < W.heap.size := by obtain ⟨m, hm⟩ := k0; exact DataW.trod_lt m _ _ _ hm
  obtain ⟨n0, m0, rfl, bn0, bm0⟩ := open_amt (hval 0 23 v0 rfl rfl) h0
  clear hA0 hval0
  refine (up_walk n0 m0 bn0 bm0 W).mono fun e W1 ⟨he, bel⟩ => ?_
  subst he
  exact ⟨_, rfl, _, _, _, [], _, [], hW', trodAll_mk1 (shut_bool Try.underlying4 _), (trodAll_cons_mk (Below.trod laidOut (by kernel_rfl) (of_decide_eq_true (by kernel_rfl)) k0 bel lt0) trodAll_mk0), rfl, bel.frame _, fun h => by cases h⟩
theorem over : Rows.fnExactUnitPartsRow.holds Try.pinned (OpenSpec.ofChange Rows.fnExactUnitPartsSpec) :=
  OpenClaim.holds_of_wide 16 Try.f16 rfl rfl rfl rfl rfl rfl rfl ⟨rfl, rfl, rfl, rfl, rfl⟩ rfl rfl rfl rfl rfl (by kernel_rfl) Try.func16 (by kernel_rfl)
    (of_decide_eq_true (by kernel_rfl)) (by unfold Func.isWrapper; first | (rw [if_pos (by decide +kernel)]; kernel_rfl) | (rw [if_neg (by decide +kernel)]; exact ⟨rfl, rfl⟩))
    (fun os started H enc _ => lifted os started H enc)
theorem proved : Rows.FnExactUnitPartsSaid := over
end fnExactUnitParts
end Go.Proofs.Ytlfbnogkbdgnaaa
