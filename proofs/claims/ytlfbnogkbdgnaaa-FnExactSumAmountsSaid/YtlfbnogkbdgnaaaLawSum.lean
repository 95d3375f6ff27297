/- The law FnExactSumAmounts, for every list of amounts (nil, too; of whatever length, also with what is none): the program answers as the model, and the list stays as it was. No condition. -/
import Derived.Test.YtlfbnogkbdgnaaaLawBase
import Derived.Test.YtlfbnogkbdgnaaaAmts2
import Derived.Test.YtlfbnogkbdgnaaaSumS
import Derived.Deep.Slices
import Derived.Deep.Fields
import Derived.ChangeSame
namespace Go.Proofs.Ytlfbnogkbdgnaaa
open Go.ChangeShapes Go.WideShapes Go.ChangeAt Go.RowKit Go.Joins
set_option linter.unusedVariables false
set_option linter.unusedSimpArgs false

def suN (l : List (Int × Int)) : Int := if l.length ≤ 50 then oN (sumL l 0 1) else 0
def suD (l : List (Int × Int)) : Int := if l.length ≤ 50 then oD (sumL l 0 1) else 0
def suB (l : List (Int × Int)) : Bool := if l.length ≤ 50 then oB (sumL l 0 1) else false
theorem cells_of_row {w : World} {base g : Nat} {l : List (Int × Int)} (h : w.ownsRow base 25 2 (.slice (some ⟨g, 0, none⟩) l.length l.length) l.length (cellsOf2 l)) :
    ∀ (i : Nat) (p : Int × Int), l[i]? = some p → w.cell? ⟨g, 0 + i * 2, none⟩ = some (.int .i64 p.1) ∧ w.cell? ⟨g, 0 + i * 2 + 1, none⟩ = some (.int .i64 p.2) := by
  intro i p hp
  have hi : i < l.length := (List.getElem?_eq_some_iff.1 hp).1
  obtain ⟨c1, c2⟩ := cells_get l i p hp
  rw [Nat.zero_add, h.cellAt _ (by omega), h.cellAt _ (by omega)]
  exact ⟨c1, c2⟩
theorem sum_spec_all (base g : Nat) (l : List (Int × Int)) (w : World) (hn : l.length ≤ 1048576)
    (hbd : ∀ p ∈ l, (-9223372036854775808 ≤ p.1 ∧ p.1 ≤ 9223372036854775807) ∧ -9223372036854775808 ≤ p.2 ∧ p.2 ≤ 9223372036854775807)
    (h : w.ownsRow base 25 2 (.slice (some ⟨g, 0, none⟩) l.length l.length) l.length (cellsOf2 l)) :
    Calls Try.prog 37 #[.slice (some ⟨g, 0, none⟩) l.length l.length] w fun e w' => e = .returned (.tuple #[.agg #[.int .i64 (suN l), .int .i64 (suD l)], .bool (suB l)]) ∧ Below w.heap.size w w' := by
  unfold suN suD suB
  by_cases h50 : l.length ≤ 50
  · rw [if_pos h50, if_pos h50, if_pos h50]
    exact sum_spec g 0 l.length l w (own_lt h rfl) (Nat.le_refl _) (by omega) (cells_of_row h) hbd h50
  · rw [if_neg h50, if_neg h50, if_neg h50]
    exact sum_spec_many _ _ _ _ (by omega) hn
theorem sum_impl_all (base g : Nat) (l : List (Int × Int)) (w : World) (hn : l.length ≤ 1048576)
    (hbd : ∀ p ∈ l, (-9223372036854775808 ≤ p.1 ∧ p.1 ≤ 9223372036854775807) ∧ -9223372036854775808 ≤ p.2 ∧ p.2 ≤ 9223372036854775807)
    (h : w.ownsRow base 25 2 (.slice (some ⟨g, 0, none⟩) l.length l.length) l.length (cellsOf2 l)) :
    Calls Try.prog 39 #[.slice (some ⟨g, 0, none⟩) l.length l.length] w fun e w' => e = .returned (.tuple #[.agg #[.int .i64 (suN l), .int .i64 (suD l)], .bool (suB l)]) ∧ Below w.heap.size w w' := by
  unfold suN suD suB
  by_cases h50 : l.length ≤ 50
  · rw [if_pos h50, if_pos h50, if_pos h50]
    exact sum_impl g 0 l.length l w (own_lt h rfl) (Nat.le_refl _) (by omega) (cells_of_row h) hbd h50
  · rw [if_neg h50, if_neg h50, if_neg h50]
    exact sum_impl_many _ _ _ _ (by omega) hn

/-- The law over whatever slice is copied as l in this world and in all later ones. -/
theorem sm_walk_of (a : Option Addr) (cap : Nat) (l : List (Int × Int)) (w : World) (hn : l.length ≤ 1048576)
    (hbd : ∀ p ∈ l, (-9223372036854775808 ≤ p.1 ∧ p.1 ≤ 9223372036854775807) ∧ -9223372036854775808 ≤ p.2 ∧ p.2 ≤ 9223372036854775807)
    (hcopy : ∀ W, Below w.heap.size w W → Calls Try.prog 38 #[.slice a l.length cap] W (EndCopy l W)) :
    Calls Try.prog 11 #[.slice a l.length cap] w fun e w' => e = .returned (.bool true) ∧ Below w.heap.size w w' := by
  have hpos : ¬ (1048576 - (l.length : Int) < 0) := by omega
  have hsz := sz_amts a l.length cap
  have hn2 : l.length ≤ 9223372036854775807 := by omega
  go_enter Try.func11, Try.ntmps11
  go_wp2_with fail; refine (hsz _ hn2).mono ?_; rintro e w1 ⟨rfl, hb1⟩
  rw [if_pos hn]
  clear hsz
  go_wp2_with fail; refine (hcopy _ hb1).mono ?_; rintro e w2 ⟨g2, rfl, hown2, hb2⟩
  have hA2 := bstep hb1 hb2
  go_wp2_with fail; refine (sum_spec_all _ _ _ _ hn hbd hown2).mono ?_; rintro e w3 ⟨rfl, hb3⟩
  have hA3 := bstep hA2 hb3
  clear hown2 hb1 hb2 hb3 hA2
  go_wp2_with fail; refine (hcopy _ (by (repeat (first | exact Below.refl _ _ | assumption | refine balloc ?_ _ | refine bdrew ?_ | refine bset ?_ ?_ _ | exact Nat.le_refl _ | refine bsize ?_ | (dsimp only; refine Nat.le_trans ?_ (Nat.le_add_right _ _)) | refine Nat.le_trans ?_ (Nat.le_add_right _ _) | (refine bstep ?_ (by assumption)))))).mono ?_; rintro e w4 ⟨g4, rfl, hown4, hb4⟩
  obtain ⟨kc4, kf4, kz4, ky4, kx4, kv4, ku4⟩ := bcell hb4
  have q0 : w4.cell? ⟨w3.heap.size, 0, none⟩ = some (.int .i64 (suN l)) := (kc4 _ _ (by simp)).trans (by simp [go_sem])
  have q1 : w4.cell? ⟨w3.heap.size, 1, none⟩ = some (.int .i64 (suD l)) := (kc4 _ _ (by simp)).trans (by simp [go_sem])
  have s4 : w3.heap.size < w4.heap.size := kz4 _ (by simp)
  have hA4 : Below w.heap.size w w4 := by (repeat (first | exact Below.refl _ _ | assumption | refine balloc ?_ _ | refine bdrew ?_ | refine bset ?_ ?_ _ | exact Nat.le_refl _ | refine bsize ?_ | (dsimp only; refine Nat.le_trans ?_ (Nat.le_add_right _ _)) | refine Nat.le_trans ?_ (Nat.le_add_right _ _) | (refine bstep ?_ (by assumption))))
  clear kc4 kf4 kz4 ky4 kx4 kv4 ku4 hb4 hA3
  go_wp2_with fail; refine (sum_impl_all _ _ _ _ hn hbd hown4).mono ?_; rintro e w5 ⟨rfl, hb5⟩
  have hA5 := bstep hA4 hb5
  have hown5 := ownsRow_below hown4 hb5
  replace q0 := keepa hb5 s4 q0
  replace q1 := keepa hb5 s4 q1
  have z5 := hb5.size
  have s5 : w3.heap.size < w5.heap.size := by omega
  clear hown4 hb5 hA4 s4 z5
  go_wp2_with fail; refine (eq_same _ _ _).mono ?_; rintro e w6 ⟨rfl, hb6⟩
  have hA6 : Below w.heap.size w w6 := by (repeat (first | exact Below.refl _ _ | assumption | refine balloc ?_ _ | refine bdrew ?_ | refine bset ?_ ?_ _ | exact Nat.le_refl _ | refine bsize ?_ | (dsimp only; refine Nat.le_trans ?_ (Nat.le_add_right _ _)) | refine Nat.le_trans ?_ (Nat.le_add_right _ _) | (refine bstep ?_ (by assumption))))
  have hown6 := ownsRow_below (hown5.alloc _) hb6
  clear hown5 hb6 hA5 q0 q1 s5
  go_wp2_with fail; refine (hcopy _ hA6).mono ?_; rintro e w7 ⟨g7, rfl, hown7, hb7⟩
  have hA7 := bstep hA6 hb7
  have hown7' := ownsRow_below hown6 hb7
  clear hown6 hb7 hA6
  go_wp2_with fail; refine (eq_amts _ _ _ _ _ _ hn hown7' hown7).mono ?_; rintro e w8 ⟨rfl, hb8⟩
  have hA8 := bstep hA7 hb8
  clear hown7 hown7' hA7
  go_wp2
  go_ret
  exact ⟨rfl, hA8⟩

theorem sm_walk_long (a : Option Addr) (n cap : Nat) (w : World) (hn : 1048576 < n) (hn2 : n ≤ 9223372036854775807) :
    Calls Try.prog 11 #[.slice a n cap] w fun e w' => e = .returned (.bool true) ∧ Below w.heap.size w w' := by
  have hsz := sz_amts a n cap
  go_enter Try.func11, Try.ntmps11
  go_wp2_with fail; refine (hsz _ hn2).mono ?_; rintro e w1 ⟨rfl, hb1⟩
  rw [if_neg (by omega)]
  go_wp2
  go_ret
  exact ⟨rfl, hb1⟩

/-- The law at nil. -/
theorem sm_walk_nil (w : World) : Calls Try.prog 11 #[.slice none 0 0] w fun e w' => e = .returned (.bool true) ∧ Below w.heap.size w w' :=
  sm_walk_of none 0 [] w (by simp) (by simp) (fun W _ => to_amts_nil W)
/-- The law at a list that lies somewhere. -/
theorem sm_walk_some (a : Addr) (cap : Nat) (l : List (Int × Int)) (w : World) (hL : Lies w a cap l) :
    Calls Try.prog 11 #[.slice (some a) l.length cap] w fun e w' => e = .returned (.bool true) ∧ Below w.heap.size w w' := by
  by_cases hn : l.length ≤ 1048576
  · exact sm_walk_of (some a) cap l w hn hL.hbd (fun W hb => to_amts_some a cap l W (lies_below hL hb) hn)
  · exact sm_walk_long _ _ _ _ (by omega) (by have := hL.hlc; have := hL.hcap; omega)

/-- A law's argument that is a list of amounts: none, or one that lies somewhere. -/
def AnyRow (w : World) (v : Value) : Prop := v = .slice none 0 0 ∨ ∃ (a : Addr) (cap : Nat) (l : List (Int × Int)), v = .slice (some a) l.length cap ∧ Lies w a cap l
theorem cellsInt : Try.prog.cellsOf 3 = 1 := by kernel_rfl
theorem open_amts {H : Type} {enc : TypeId × Value → H} {W : World} {base b0 : Nat} {spare : Nat → Bool} {held : Bool} {v : Value} {d : DataW H} {p : List MemPlace}
    (hv : Value.okWide Try.prog W .any b0 37 v) (h : DataW.Trod enc Try.prog W base spare held 37 v d p) : AnyRow W v := by
  obtain ⟨a0, len0, cap0, rfl⟩ := okWide_slice Try.underlying37 hv
  obtain ⟨fuel, hf⟩ := h
  rcases Deep.open_slice Try.underlying37 hf with ⟨hc, _⟩ | ⟨a, len, cap, m, n, D, Pl, hc, hb, hl, hm, hmm, hx, hi⟩
  · left; simpa [Value.cells] using hc
  · right
    have hv' : Value.slice a0 len0 cap0 = .slice (some a) len cap := by simpa [Value.cells] using hc
    rw [hv']
    have hlm : len ≤ m := by rw [hmm]; split <;> omega
    have hcell : ∀ i : Nat, ∃ q : Int × Int, i < len → W.cell? (a.add (i * 2)) = some (.int .i64 q.1) ∧ W.cell? (a.add (i * 2 + 1)) = some (.int .i64 q.2) ∧ (-9223372036854775808 ≤ q.1 ∧ q.1 ≤ 9223372036854775807) ∧ -9223372036854775808 ≤ q.2 ∧ q.2 ≤ 9223372036854775807 := by
      intro i
      by_cases hi' : i < len
      · obtain ⟨cs', hcs, ht⟩ := hi i (by omega)
        rw [cellsAmt] at hcs
        obtain ⟨_, hcl, hat⟩ := World.cells?_some hcs
        obtain ⟨y0, y1, n', hx', _, h0, h1⟩ := trod_struct2 Try.underlying23 ht
        obtain ⟨x, e0, _, w0⟩ := DataW.trod_int Try.underlying3 h0
        obtain ⟨y, e1, _, w1⟩ := DataW.trod_int Try.underlying3 h1
        match cs', hcl with
        | [c0, c1], _ =>
          simp [cellsInt] at e0 e1
          subst e0 e1
          have k0 := hat 0 (by omega)
          have k1 := hat 1 (by omega)
          rw [Deep.add_add] at k0 k1
          exact ⟨(x, y), fun _ => ⟨k0, k1, int_bounds w0, int_bounds w1⟩⟩
      · exact ⟨(0, 0), fun h => absurd h hi'⟩
    obtain ⟨f, hf'⟩ := Classical.axiomOfChoice hcell
    refine ⟨a, cap, (List.range len).map f, by simp, by simpa using hl, by unfold maxLen at hm; omega, ?_, ?_⟩
    · intro i q hq
      have hlt : i < len := by have := (List.getElem?_eq_some_iff.1 hq).1; simpa using this
      have e : q = f i := by
        simp [hlt] at hq
        exact hq.symm
      subst e
      exact ⟨(hf' i hlt).1, (hf' i hlt).2.1⟩
    · intro q hq
      simp only [List.mem_map, List.mem_range] at hq
      obtain ⟨i, hlt, rfl⟩ := hq
      exact (hf' i hlt).2.2
/-- The law at every list. -/
theorem sm_walk (v : Value) (w0 : World) (h : AnyRow w0 v) (w : World) (e : w0 = w := by rfl) :
    Calls Try.prog 11 #[v] w fun e w' => e = .returned (.bool true) ∧ Below w.heap.size w w' := by
  subst e
  rcases h with rfl | ⟨a, cap, l, rfl, hL⟩
  · exact sm_walk_nil w0
  · exact sm_walk_some a cap l w0 hL

namespace fnExactSumAmounts
set_option maxRecDepth 100000 in
theorem lifted (os : Os) (started : os.Started) (H : Type) (enc : TypeId × Value → H) :
    ReturnsInHanded {} Try.checked os 11 .any (Rows.fnExactSumAmountsSpec.pre6 enc Try.prog Try.f11 Rows.fnExactSumAmountsRow.domain false) (Rows.fnExactSumAmountsSpec.post enc Try.prog Try.f11 false true false false) := by
  refine returnsInHanded_of_change (C := Try.checked) own started (by kernel_rfl) Try.func11
    (ChangeSpec.witness6 (enc := enc) (C := Try.checked) false ⟨#[], #[.slice none 0 0], []⟩ 8 (by kernel_rfl) (by kernel_rfl) (by kernel_rfl) (by kernel_rfl)) ?_
  intro W base args ds gs before hval0 hW hcnd _
  have hval : ∀ (j : Nat) t v, Try.f11.params[j]? = some t → args[j]? = some v → Value.okWide Try.prog W .any base t v := hval0
  have hW' := hW
  obtain ⟨p, q, hA0, hV, rfl, hfz, hnd⟩ := hW
  have hA : DataW.TrodAll enc Try.prog W 0 (fun _ => true) true Try.f11.params.toList args.toList ds p := hA0
  rw [Try.params11] at hA hval
  obtain ⟨v0, vs0, d0, ds0, p0, q0, hargs, rfl, rfl, h0, r0⟩ := trodAll_cons hA
  obtain ⟨rfl, rfl, rfl⟩ := trodAll_nil r0
  obtain rfl : args = #[v0] := by cases args; simp_all
  obtain ⟨rfl, rfl⟩ := trodVars_none hV
  have k0 := h0
  have lt0 : ∀ x ∈ p0, x.block < W.heap.size := by obtain ⟨m, hm⟩ := k0; exact DataW.trod_lt m _ _ _ hm
  have z0 := open_amts (hval 0 37 v0 rfl rfl) h0
  clear hA0 hval0
  refine (sm_walk v0 W z0 W).mono fun e W1 ⟨he, bel⟩ => ?_
  subst he
  exact ⟨_, rfl, _, _, _, [], _, [], hW', trodAll_mk1 (shut_bool Try.underlying4 _), (trodAll_cons_mk (Below.trod laidOut (by kernel_rfl) (of_decide_eq_true (by kernel_rfl)) k0 bel lt0) trodAll_mk0), rfl, bel.frame _, fun h => by cases h⟩
theorem over : Rows.fnExactSumAmountsRow.holds Try.pinned (OpenSpec.ofChange Rows.fnExactSumAmountsSpec) :=
  OpenClaim.holds_of_wide 11 Try.f11 rfl rfl rfl rfl rfl rfl rfl ⟨rfl, rfl, rfl, rfl, rfl⟩ rfl rfl rfl rfl rfl (by kernel_rfl) Try.func11 (by kernel_rfl)
    (of_decide_eq_true (by kernel_rfl)) (by unfold Func.isWrapper; first | (rw [if_pos (by decide +kernel)]; kernel_rfl) | (rw [if_neg (by decide +kernel)]; exact ⟨rfl, rfl⟩))
    (fun os started H enc _ => lifted os started H enc)
theorem proved : Rows.FnExactSumAmountsSaid := over
end fnExactSumAmounts
end Go.Proofs.Ytlfbnogkbdgnaaa
