/- The trials of a puzzle, of the program. -/
import Derived.Test.YthhmmdapoaeeiaaPzD
import Derived.Test.YthhmmdapoaeeiaaApp
import Derived.Test.YthhmmdapoaeeiaaOrd
import Derived.Deep.RegionHeld3
import Derived.Deep.DeepCutAuto
namespace Go.Proofs.Ythhmmdapoaeeiaa
open Go.ChangeShapes Go.WideShapes Go.ChangeAt Go.RowKit Go.Joins
set_option maxRecDepth 100000
set_option linter.unusedVariables false
set_option linter.unusedSimpArgs false


/-- A panic of a region is told by the world alone. -/
def PanicTo (Φ : World → Prop) (c0 : List PanicEntry) (D : List Deferred) (x y : Value) (Q : Exit → Act → World → Prop) : Exit → Act → World → Prop
  | .panic c, a, w => c = c0 ∧ Φ w ∧ a.defers = D ∧ a.tmps[2]? = some x ∧ a.tmps[3]? = some y
  | e, a, w => Q e a w
theorem PanicTo.put {Φ : World → Prop} {c0 : List PanicEntry} {D : List Deferred} {x y : Value} {Q : Exit → Act → World → Prop} {i : Nat} (h2 : i ≠ 2) (h3 : i ≠ 3) {c : List PanicEntry} {a : Act} {v : Value} {w : World}
    (h : PanicTo Φ c0 D x y Q (.panic c) (a.put (some i) v) w) : PanicTo Φ c0 D x y Q (.panic c) a w := by
  obtain ⟨e, hp, hd, e2, e3⟩ := h
  refine ⟨e, hp, hd, ?_, ?_⟩
  · rw [← e2]; simp [Act.put, Array.getElem?_setIfInBounds_ne h2]
  · rw [← e3]; simp [Act.put, Array.getElem?_setIfInBounds_ne h3]
theorem wp_region_panicTo {P : Program} {id : Nat} {ops : Array Oper} {b : Bool} {Q : Exit → Act → World → Prop} {a : Act} {w : World} (Φ : World → Prop) (c0 : List PanicEntry) (D : List Deferred) (x y : Value)
    (hQ : ∀ a w, Φ w → a.defers = D → a.tmps[2]? = some x → a.tmps[3]? = some y → Q (.panic c0) a w) (h : (Code.region id ops b).wp P (PanicTo Φ c0 D x y Q) a w) : (Code.region id ops b).wp P Q a w :=
  Code.wp_mono (fun e a w hh => by
    cases e
    case panic c =>
      obtain ⟨rfl, h1, h2, h3, h4⟩ := hh
      exact hQ a w h1 h2 h3 h4
    all_goals exact hh) h
theorem infoTrial : (Try.prog.info? 58).map (fun i => (i.zero, i.size, i.bytes)) = some (some .nilFunc, 1, 8) := by kernel_rfl
/-- How trials end. -/
def EndTr (m : Int) (l : List ClueV) (w : World) (e : Ending) (w' : World) : Prop :=
  ∃ v, e = .returned (.tuple #[v, .bool (pzB m l)]) ∧ Below w.heap.size w w' ∧
    (pzB m l = true → ∃ vs : List Value, w'.ownsRow w.heap.size 58 1 v l.length vs ∧ ∀ (i : Nat) (p : ClueV), l[i]? = some p → ∃ u, vs[i]? = some u ∧ TrialAt m p u w') ∧ (pzB m l = false → v = .slice none 0 0)
/-- The variables of trials in the world W: the puzzle, the trials, the answer. -/
theorem TrialAt.put {m : Int} {p : ClueV} {u : Value} {W : World} (h : TrialAt m p u W) {b n c : Nat} {sa : Option Addr} (hc : W.cell? ⟨b, 0, none⟩ = some (.slice sa n c)) (v' : Value) : TrialAt m p u (W.setCell ⟨b, 0, none⟩ v') := by
  obtain ⟨g, gm, h1, h2, e⟩ := h
  refine ⟨g, gm, h1.set (fun e => ?_) _, h2.set (fun e => ?_) _, e⟩
  · change b = g at e
    subst e
    rw [h1.cell 0] at hc
    simp at hc
  · change b = gm at e
    subst e
    rw [h2.cell 0] at hc
    simp at hc
theorem TrialAt.putB {m : Int} {p : ClueV} {u : Value} {W : World} (h : TrialAt m p u W) {b : Nat} {y : Bool} (hc : W.cell? ⟨b, 0, none⟩ = some (.bool y)) (v' : Value) : TrialAt m p u (W.setCell ⟨b, 0, none⟩ v') := by
  obtain ⟨g, gm, h1, h2, e⟩ := h
  refine ⟨g, gm, h1.set (fun e => ?_) _, h2.set (fun e => ?_) _, e⟩
  · change b = g at e
    subst e
    rw [h1.cell 0] at hc
    simp at hc
  · change b = gm at e
    subst e
    rw [h2.cell 0] at hc
    simp at hc
structure TrSt (h : Nat) (m : Int) (v : Value) (W : World) : Prop where
  c0 : W.cell? ⟨h, 0, none⟩ = some (.int .i64 m)
  c1 : W.cell? ⟨h + 1, 0, none⟩ = some v
  c2 : W.cell? ⟨h + 1 + 1, 0, none⟩ = some (.bool false)
  z1 : W.frozen? ⟨h + 1, 0, none⟩ = false
  z2 : W.frozen? ⟨h + 1 + 1, 0, none⟩ = false
  hs : h + 1 + 1 < W.heap.size
theorem TrSt.later {h : Nat} {m : Int} {v : Value} {W W' : World} (s : TrSt h m v W) (hb : Below W.heap.size W W') : TrSt h m v W' := by
  have q0 : h < W.heap.size := by have := s.hs; omega
  have q1 : h + 1 < W.heap.size := by have := s.hs; omega
  have q2 : h + 1 + 1 < W.heap.size := s.hs
  exact ⟨keepa hb q0 s.c0, keepa hb q1 s.c1, keepa hb q2 s.c2, keepf hb q1 s.z1, keepf hb q2 s.z2, Nat.lt_of_lt_of_le q2 hb.size⟩
theorem TrSt.grown {h : Nat} {m : Int} {v : Value} {W W' : World} (s : TrSt h m v W) {row : Option Nat} (hg : W.grownBy W' row) (hr : ∀ k, row = some k → h + 1 + 1 < k) : TrSt h m v W' := by
  have n0 : some h ≠ row := fun e => by have := hr h e.symm; omega
  have n1 : some (h + 1) ≠ row := fun e => by have := hr _ e.symm; omega
  have n2 : some (h + 1 + 1) ≠ row := fun e => by have := hr _ e.symm; omega
  have hz := s.hs
  exact ⟨hg.cell s.c0 n0, hg.cell s.c1 n1, hg.cell s.c2 n2, grown_frozen hg s.z1 (by simp; omega) n1, grown_frozen hg s.z2 (by simp; omega) n2, Nat.lt_of_lt_of_le s.hs hg.size⟩
theorem TrSt.put {h : Nat} {m : Int} {v v' : Value} {W : World} (s : TrSt h m v W) : TrSt h m v' (W.setCell ⟨h + 1, 0, none⟩ v') := by
  refine ⟨?_, ?_, ?_, ?_, ?_, ?_⟩
  · rw [World.cell?_setCell_far _ _ _ _ (by simp)]; exact s.c0
  · exact World.cell?_setCell_same' _ _ _ (by rw [s.c1]; rfl)
  · rw [World.cell?_setCell_far _ _ _ _ (by simp)]; exact s.c2
  · rw [World.frozen?_setCell]; exact s.z1
  · rw [World.frozen?_setCell]; exact s.z2
  · have := s.hs; simpa using this

set_option maxHeartbeats 3200000 in
theorem trials_no (m : Int) (bm : (-9223372036854775808 ≤ m ∧ m ≤ 9223372036854775807)) (a0 : Option Addr) (n c0 : Nat) (l : List ClueV) (hln : n = l.length) (w : World) (hl1 : n ≤ c0) (hl2 : c0 ≤ 9223372036854775807) (h : miB m = false ∨ (miB m = true ∧ ¬ n ≤ 8)) :
    Calls Try.prog 26 #[.agg #[.int .i64 m, .slice a0 n c0]] w (EndTr m l w) := by
  have hmf : ∀ (fn : Fn) (first cap : Array Value) (w : World), (Instr.makeFunc fn first cap).run Try.prog w = .ok (.func fn first cap) w := fun _ _ _ _ => rfl
  have hno : pzB m l = false := by
    rcases h with h | h
    · exact pzB_no1 h
    · exact pzB_no2 (by rw [← hln]; exact h.2)
  unfold EndTr
  rw [hno]
  rcases h with h1 | ⟨h1, h2⟩
  · -- no puzzle, told at once
    go_enter_defers Try.func26, Try.ntmps26
    go_wp2_with (go_at_call 35; refine (mi_impl _ _).mono ?_; rintro e w1 ⟨rfl, rfl⟩; rw [h1])
    refine leaves_cons (f := 34) (args := #[.pointer (some ⟨w.heap.size + 1, 0, none⟩), .pointer (some ⟨w.heap.size + 1 + 1, 0, none⟩)]) (by simp) (by simp [go_sem]) ?_
    refine (door_idle _ _ _).mono ?_
    rintro e u' w'' ⟨rfl, rfl, rfl⟩
    simp [Leaves, settle, results, Try.results26, go_sem]
    (repeat (first | with_reducible exact Below.refl _ _ | with_reducible assumption | with_reducible refine balloc ?_ _ | with_reducible refine bdrew ?_ | with_reducible refine below_drewN ?_ _ | with_reducible refine bset ?_ ?_ _ | with_reducible exact Nat.le_refl _ | with_reducible refine bsize ?_ | (dsimp only; refine Nat.le_trans ?_ (Nat.le_add_right _ _)) | with_reducible refine Nat.le_trans ?_ (Nat.le_add_right _ _) | (with_reducible refine bstep ?_ (by assumption))))
  · -- no puzzle, told at once
    go_enter_defers Try.func26, Try.ntmps26
    go_wp2_with (go_at_call 35; refine (mi_impl _ _).mono ?_; rintro e w1 ⟨rfl, rfl⟩; rw [h1])
    refine leaves_cons (f := 34) (args := #[.pointer (some ⟨w.heap.size + 1, 0, none⟩), .pointer (some ⟨w.heap.size + 1 + 1, 0, none⟩)]) (by simp) (by simp [go_sem]) ?_
    refine (door_idle _ _ _).mono ?_
    rintro e u' w'' ⟨rfl, rfl, rfl⟩
    simp [Leaves, settle, results, Try.results26, go_sem]
    (repeat (first | with_reducible exact Below.refl _ _ | with_reducible assumption | with_reducible refine balloc ?_ _ | with_reducible refine bdrew ?_ | with_reducible refine below_drewN ?_ _ | with_reducible refine bset ?_ ?_ _ | with_reducible exact Nat.le_refl _ | with_reducible refine bsize ?_ | (dsimp only; refine Nat.le_trans ?_ (Nat.le_add_right _ _)) | with_reducible refine Nat.le_trans ?_ (Nat.le_add_right _ _) | (with_reducible refine bstep ?_ (by assumption))))
set_option maxHeartbeats 3200000 in
theorem trials_nil (m : Int) (bm : (-9223372036854775808 ≤ m ∧ m ≤ 9223372036854775807)) (w : World) (h1 : miB m = true) :
    Calls Try.prog 26 #[.agg #[.int .i64 m, .slice none 0 0]] w (EndTr m [] w) := by
  have hmf : ∀ (fn : Fn) (first cap : Array Value) (w : World), (Instr.makeFunc fn first cap).run Try.prog w = .ok (.func fn first cap) w := fun _ _ _ _ => rfl
  have hyes : pzB m [] = true := pzB_all h1 (by simp) (by simp)
  unfold EndTr
  rw [hyes]
  go_enter_defers Try.func26, Try.ntmps26
  go_wp2_with (go_at_call 35; refine (mi_impl _ _).mono ?_; rintro e w1 ⟨rfl, rfl⟩; rw [h1])
  go_loopw [20] (fun i wr => i = .int .i64 0 ∧ wr = ((w.alloc (.cells #[.int .i64 m, .slice none 0 0] 35)).alloc (.cells #[.slice none 0 0] 48)).alloc (.cells #[.bool false] 4)) (fun _ _ => 0)
  case atStart => exact ⟨rfl, rfl⟩
  case round =>
    obtain ⟨rfl, rfl⟩ := hrel
    go_wp2
    refine leaves_cons (f := 34) (args := #[.pointer (some ⟨w.heap.size + 1, 0, none⟩), .pointer (some ⟨w.heap.size + 1 + 1, 0, none⟩)]) (by simp) (by simp [go_sem]) ?_
    refine (door_idle _ _ _).mono ?_
    rintro e u' w'' ⟨rfl, rfl, rfl⟩
    simp [Leaves, settle, results, Try.results26, go_sem]
    exact ⟨by (repeat (first | with_reducible exact Below.refl _ _ | with_reducible assumption | with_reducible refine balloc ?_ _ | with_reducible refine bdrew ?_ | with_reducible refine below_drewN ?_ _ | with_reducible refine bset ?_ ?_ _ | with_reducible exact Nat.le_refl _ | with_reducible refine bsize ?_ | (dsimp only; refine Nat.le_trans ?_ (Nat.le_add_right _ _)) | with_reducible refine Nat.le_trans ?_ (Nat.le_add_right _ _) | (with_reducible refine bstep ?_ (by assumption)))), [], ⟨rfl, .inl ⟨rfl, rfl⟩⟩⟩
set_option maxHeartbeats 6400000 in
theorem trials_some (m : Int) (bm : (-9223372036854775808 ≤ m ∧ m ≤ 9223372036854775807)) (a : Addr) (cap : Nat) (l : List ClueV) (w : World) (h1 : miB m = true) (h2 : l.length ≤ 8) (hL0 : LiesG 3 fClue w a cap l) :
    Calls Try.prog 26 #[.agg #[.int .i64 m, .slice (some a) l.length cap]] w (EndTr m l w) := by
  have hmf : ∀ (fn : Fn) (first cap : Array Value) (w : World), (Instr.makeFunc fn first cap).run Try.prog w = .ok (.func fn first cap) w := fun _ _ _ _ => rfl
  have hm := miB_yes h1
  obtain ⟨i0, hi, hz0, hz1, hz2⟩ := info_parts infoTrial
  have hlc := hL0.hlc
  have hcap := hL0.hcap
  have hLH := Lib.hid hL0
  clear hL0
  go_enter_defers Try.func26, Try.ntmps26
  go_wp2_with (go_at_call 35; refine (mi_impl _ _).mono ?_; rintro e w1 ⟨rfl, rfl⟩; rw [h1])
  go_loopw [20] (fun i wr => ∃ (k : Nat) (v : Value) (vs : List Value), k ≤ l.length ∧ i = .int .i64 k ∧ Hid (∀ (j : Nat) (p : ClueV), j < k → l[j]? = some p → clP m p = true) ∧ wr.ownsRow (w.heap.size + 1 + 1 + 1) 58 1 v k vs ∧ Hid (∀ (j : Nat) (p : ClueV), j < k → l[j]? = some p → ∃ u, vs[j]? = some u ∧ TrialAt m p u wr) ∧ TrSt w.heap.size m v wr ∧ Below w.heap.size w wr) (fun i _ => l.length - (intOf i).toNat)
  case atStart => exact ⟨0, .slice none 0 0, [], Nat.zero_le _, rfl, Lib.hid (fun j p h => absurd h (by omega)), ⟨rfl, .inl ⟨rfl, rfl⟩⟩, Lib.hid (fun j p h => absurd h (by omega)), ⟨by simp [go_sem], by simp [go_sem], by simp [go_sem], by simp [go_sem], by simp [go_sem], by simp⟩, by (repeat (first | with_reducible exact Below.refl _ _ | with_reducible assumption | with_reducible refine balloc ?_ _ | with_reducible refine bdrew ?_ | with_reducible refine below_drewN ?_ _ | with_reducible refine bset ?_ ?_ _ | with_reducible exact Nat.le_refl _ | with_reducible refine bsize ?_ | (dsimp only; refine Nat.le_trans ?_ (Nat.le_add_right _ _)) | with_reducible refine Nat.le_trans ?_ (Nat.le_add_right _ _) | (with_reducible refine bstep ?_ (by assumption))))⟩
  case round =>
    obtain ⟨k, v, vs, hk, rfl, hall, hown, htr, hst, hbel⟩ := hrel
    have hL := hLH.out
    obtain ⟨av, cv, rfl⟩ := owns_shape hown
    by_cases hlt : k < l.length
    · obtain ⟨p, hp⟩ : ∃ p, l[k]? = some p := ⟨_, List.getElem?_eq_getElem hlt⟩
      have hL2 := liesG_below hL hbel
      have hc := hL2.hcell k p hp
      have e0 := hc 0 p.k rfl
      rw [Nat.add_zero] at e0
      have e1 : wr.cell? ⟨(a.add (k * 3)).block, (a.add (k * 3)).off + 1, none⟩ = some (.int .i64 p.a) := by
        have h := hc 1 p.a rfl
        rw [← Deep.add_add] at h
        exact h
      have e2 : wr.cell? ⟨(a.add (k * 3)).block, (a.add (k * 3)).off + 2, none⟩ = some (.int .i64 p.b) := by
        have h := hc 2 p.b rfl
        rw [← Deep.add_add] at h
        exact h
      clear hc
      clear hL hL2
      have hwz := hst.hs
      cases hP : clB m p.k p.a p.b
      · have hno := Lib.hid (pzB_no3 hp hP)
        have HN := Lib.hid (fun W => tr_no m p.k p.a p.b hm hP W)
        clear hP hp hall htr
        obtain ⟨q0, q1, q2, z1, z2, qs⟩ := id hst
        go_upto_region 7 with fail
        refine wp_region_panicTo (fun W => TrSt w.heap.size m (.slice av k cv) W ∧ Below w.heap.size w W) [{ v := .iface 25 (.agg #[.int .i64 p.k, .int .i64 p.a, .int .i64 p.b]), recovered := false }] [{ target := Target.fn (Fn.func 34) #[.pointer (some ⟨w.heap.size + 1, 0, none⟩), .pointer (some ⟨w.heap.size + 1 + 1, 0, none⟩)], args := #[] }] (.pointer (some ⟨w.heap.size + 1, 0, none⟩)) (.pointer (some ⟨w.heap.size + 1 + 1, 0, none⟩)) ?_ ?_
        · rintro act W ⟨hs2, hb2⟩ hD t2 t3
          show Leaves Try.prog Try.f26 act.tmps _ act.defers (.panicking _) W
          rw [hD]
          refine leaves_cons (f := 34) (args := #[.pointer (some ⟨w.heap.size + 1, 0, none⟩), .pointer (some ⟨w.heap.size + 1 + 1, 0, none⟩)]) (by simp) (by simp [go_sem]) ?_
          refine (door_pan w _ _ av k cv false _ _ _ W hs2.c1 hs2.z1 hs2.c2 hs2.z2 (by omega) hb2 (by omega) (by omega)).mono ?_
          rintro e u' w'' ⟨rfl, rfl, d1, d2, hb3⟩
          have hno := hno.out
          simp [Leaves, settle, results, Try.results26, go_sem, t2, t3, d1, d2]
          exact ⟨_, by rw [hno], hb3, fun h => (by rw [hno] at h; cases h), fun _ => rfl⟩
        · refine wp_region_T 7 (fun W => W.cell? ⟨w.heap.size, 0, none⟩ = some (.int .i64 m) ∧ W.cell? ⟨w.heap.size + 1, 0, none⟩ = some (.slice av k cv) ∧ W.cell? ⟨wr.heap.size, 0, none⟩ = some (.int .i64 p.k) ∧ W.cell? ⟨wr.heap.size, 1, none⟩ = some (.int .i64 p.a) ∧ W.cell? ⟨wr.heap.size, 2, none⟩ = some (.int .i64 p.b)) (by kernel_rfl) (by have s := hst.later (show Below wr.heap.size wr (wr.alloc (.cells #[.int .i64 p.k, .int .i64 p.a, .int .i64 p.b] 25)).drew by (repeat (first | with_reducible exact Below.refl _ _ | with_reducible assumption | with_reducible refine balloc ?_ _ | with_reducible refine bdrew ?_ | with_reducible refine below_drewN ?_ _ | with_reducible refine bset ?_ ?_ _ | with_reducible exact Nat.le_refl _ | with_reducible refine bsize ?_ | (dsimp only; refine Nat.le_trans ?_ (Nat.le_add_right _ _)) | with_reducible refine Nat.le_trans ?_ (Nat.le_add_right _ _) | (with_reducible refine bstep ?_ (by assumption))))); exact ⟨s.c0, s.c1, by simp [go_sem], by simp [go_sem], by simp [go_sem]⟩) (fun hHeld => ?_)
          (refine wpAnyT_take (i := 0) (v := ?_) (by rfl) (by kernel_rfl) (by kernel_rfl) (by kernel_rfl) (by kernel_rfl) (by intro c a w h; exact PanicTo.put (by decide) (by decide) h) (Or.inl ⟨by rfl, ?_⟩) (by assumption) ?_; rotate_left; (focus (intro w hSw; (try dsimp only at hSw); go_simp; (try with_reducible rfl))); (try simp only [Act.put, List.setIfInBounds_toArray, List.set_cons_zero, List.set_cons_succ]))
          (refine wpAnyT_take (i := 1) (v := ?_) (by rfl) (by kernel_rfl) (by kernel_rfl) (by kernel_rfl) (by kernel_rfl) (by intro c a w h; exact PanicTo.put (by decide) (by decide) h) (Or.inl ⟨by rfl, ?_⟩) (by assumption) ?_; rotate_left; (focus (intro w hSw; (try dsimp only at hSw); go_simp; (try with_reducible rfl))); (try simp only [Act.put, List.setIfInBounds_toArray, List.set_cons_zero, List.set_cons_succ]))
          (refine wpAnyT_take (i := 2) (v := ?_) (by rfl) (by kernel_rfl) (by kernel_rfl) (by kernel_rfl) (by kernel_rfl) (by intro c a w h; exact PanicTo.put (by decide) (by decide) h) (Or.inl ⟨by rfl, ?_⟩) (by assumption) ?_; rotate_left; (focus (intro w hSw; (try dsimp only at hSw); go_simp; (try with_reducible rfl))); (try simp only [Act.put, List.setIfInBounds_toArray, List.set_cons_zero, List.set_cons_succ]))
          (refine wpAnyT_take (i := 3) (v := ?_) (by rfl) (by kernel_rfl) (by kernel_rfl) (by kernel_rfl) (by kernel_rfl) (by intro c a w h; exact PanicTo.put (by decide) (by decide) h) (Or.inl ⟨by rfl, ?_⟩) (by assumption) ?_; rotate_left; (focus (intro w hSw; (try dsimp only at hSw); go_simp; (try with_reducible rfl))); (try simp only [Act.put, List.setIfInBounds_toArray, List.set_cons_zero, List.set_cons_succ]))
          refine wpAnyT_one (i := 4) (by kernel_rfl) (by rfl) (fun K hK => ?_)
          go_simp
          refine (HN.out _).mono ?_
          rintro e w1 ⟨rfl, hb1⟩
          have f1 : Below wr.heap.size wr w1 := by (repeat (first | with_reducible exact Below.refl _ _ | with_reducible assumption | with_reducible refine balloc ?_ _ | with_reducible refine bdrew ?_ | with_reducible refine below_drewN ?_ _ | with_reducible refine bset ?_ ?_ _ | with_reducible exact Nat.le_refl _ | with_reducible refine bsize ?_ | (dsimp only; refine Nat.le_trans ?_ (Nat.le_add_right _ _)) | with_reducible refine Nat.le_trans ?_ (Nat.le_add_right _ _) | (with_reducible refine bstep ?_ (by assumption))))
          exact ⟨rfl, ⟨hst.later f1, bstep hbel f1⟩, rfl, rfl, rfl⟩
      · have hnext : Hid (∀ (j : Nat) (p : ClueV), j < k + 1 → l[j]? = some p → clP m p = true) := by
          have h := hall.out
          refine Lib.hid (fun j q hj hq => ?_)
          by_cases e : j = k
          · subst e
            rw [hp] at hq
            injection hq with hq
            subst hq
            exact hP
          · exact h j q (by omega) hq
        have HY := Lib.hid (fun W => tr_yes m p.k p.a p.b hm hP W)
        have HP9 := Lib.hid hp
        clear hP hp hall
        obtain ⟨q0, q1, q2, z1, z2, qs⟩ := id hst
        have HS9 := Lib.hid (fun (W : World) (s : TrSt w.heap.size m (.slice av k cv) W) (b : Blk wr.heap.size #[.int .i64 p.k, .int .i64 p.a, .int .i64 p.b] 25 W) => (⟨s.c0, s.c1, b.cell 0, b.cell 1, b.cell 2⟩ : W.cell? ⟨w.heap.size, 0, none⟩ = some (.int .i64 m) ∧ W.cell? ⟨w.heap.size + 1, 0, none⟩ = some (.slice av k cv) ∧ W.cell? ⟨wr.heap.size, 0, none⟩ = some (.int .i64 p.k) ∧ W.cell? ⟨wr.heap.size, 1, none⟩ = some (.int .i64 p.a) ∧ W.cell? ⟨wr.heap.size, 2, none⟩ = some (.int .i64 p.b)))
        have hbk := Blk.new wr #[.int .i64 p.k, .int .i64 p.a, .int .i64 p.b] 25
        go_upto_region 7 with fail
        refine wp_region_noPanic ?_
        refine wp_region_T 7 (fun W => W.cell? ⟨w.heap.size, 0, none⟩ = some (.int .i64 m) ∧ W.cell? ⟨w.heap.size + 1, 0, none⟩ = some (.slice av k cv) ∧ W.cell? ⟨wr.heap.size, 0, none⟩ = some (.int .i64 p.k) ∧ W.cell? ⟨wr.heap.size, 1, none⟩ = some (.int .i64 p.a) ∧ W.cell? ⟨wr.heap.size, 2, none⟩ = some (.int .i64 p.b)) (by kernel_rfl) (HS9.out _ (hst.later (by (repeat (first | with_reducible exact Below.refl _ _ | with_reducible assumption | with_reducible refine balloc ?_ _ | with_reducible refine bdrew ?_ | with_reducible refine below_drewN ?_ _ | with_reducible refine bset ?_ ?_ _ | with_reducible exact Nat.le_refl _ | with_reducible refine bsize ?_ | (dsimp only; refine Nat.le_trans ?_ (Nat.le_add_right _ _)) | with_reducible refine Nat.le_trans ?_ (Nat.le_add_right _ _) | (with_reducible refine bstep ?_ (by assumption)))))) hbk.drew) (fun hHeld => ?_)
        (refine wpAnyT_take (i := 0) (v := ?_) (by rfl) (by kernel_rfl) (by kernel_rfl) (by kernel_rfl) (by kernel_rfl) (fun _ _ _ h => h) (Or.inl ⟨by rfl, ?_⟩) (by assumption) ?_; rotate_left; (focus (intro w hSw; (try dsimp only at hSw); go_simp; (try with_reducible rfl))); (try simp only [Act.put, List.setIfInBounds_toArray, List.set_cons_zero, List.set_cons_succ]))
        (refine wpAnyT_take (i := 1) (v := ?_) (by rfl) (by kernel_rfl) (by kernel_rfl) (by kernel_rfl) (by kernel_rfl) (fun _ _ _ h => h) (Or.inl ⟨by rfl, ?_⟩) (by assumption) ?_; rotate_left; (focus (intro w hSw; (try dsimp only at hSw); go_simp; (try with_reducible rfl))); (try simp only [Act.put, List.setIfInBounds_toArray, List.set_cons_zero, List.set_cons_succ]))
        (refine wpAnyT_take (i := 2) (v := ?_) (by rfl) (by kernel_rfl) (by kernel_rfl) (by kernel_rfl) (by kernel_rfl) (fun _ _ _ h => h) (Or.inl ⟨by rfl, ?_⟩) (by assumption) ?_; rotate_left; (focus (intro w hSw; (try dsimp only at hSw); go_simp; (try with_reducible rfl))); (try simp only [Act.put, List.setIfInBounds_toArray, List.set_cons_zero, List.set_cons_succ]))
        (refine wpAnyT_take (i := 3) (v := ?_) (by rfl) (by kernel_rfl) (by kernel_rfl) (by kernel_rfl) (by kernel_rfl) (fun _ _ _ h => h) (Or.inl ⟨by rfl, ?_⟩) (by assumption) ?_; rotate_left; (focus (intro w hSw; (try dsimp only at hSw); go_simp; (try with_reducible rfl))); (try simp only [Act.put, List.setIfInBounds_toArray, List.set_cons_zero, List.set_cons_succ]))
        (refine wpAnyT_one (i := 4) (by kernel_rfl) (by rfl) (fun K hK => ?_); go_simp; (refine (HY.out _).mono ?_; rintro e w4 ⟨v4, rfl, ht4, hb4⟩; (obtain ⟨f4, cs4, rfl⟩ := ht4.shape); (have hbel4 : Below wr.heap.size wr w4 := by (repeat (first | with_reducible exact Below.refl _ _ | with_reducible assumption | with_reducible refine balloc ?_ _ | with_reducible refine bdrew ?_ | with_reducible refine below_drewN ?_ _ | with_reducible refine bset ?_ ?_ _ | with_reducible exact Nat.le_refl _ | with_reducible refine bsize ?_ | (dsimp only; refine Nat.le_trans ?_ (Nat.le_add_right _ _)) | with_reducible refine Nat.le_trans ?_ (Nat.le_add_right _ _) | (with_reducible refine bstep ?_ (by assumption))))); (have hst4 := hst.later hbel4); (have hbk4 := Blk.later (W := (wr.alloc (.cells #[.int .i64 p.k, .int .i64 p.a, .int .i64 p.b] 25)).drew) hbk hb4)); (try go_wp2_with fail); refine hK.out _ _ (Or.inr (by exact HS9.out _ hst4 hbk4)) (fun hHeld => ?_); replace hHeld := hHeld.resolve_left (by decide); clear hK; clear K; (try simp only [Act.put, List.setIfInBounds_toArray, List.set_cons_zero, List.set_cons_succ]))
        have hb5 : Below w4.heap.size w4 (w4.alloc (.cells #[.func (.func f4) #[] cs4] 58)) := balloc (Below.refl _ _) _
        have hown5 := ownsRow_below (ownsRow_below hown hbel4) hb5
        have hst5 := hst4.later hb5
        have hbk5 := hbk4.later hb5
        have ht5 := ht4.later hb5
        (refine wpAnyT_one (i := 5) (by kernel_rfl) (by rfl) (fun K hK => ?_); go_simp; skip; (try go_wp2_with fail); refine hK.out _ _ (Or.inr (by exact HS9.out _ hst5 hbk5)) (fun hHeld => ?_); replace hHeld := hHeld.resolve_left (by decide); clear hK; clear K; (try simp only [Act.put, List.setIfInBounds_toArray, List.set_cons_zero, List.set_cons_succ]))
        refine wpAnyT_one (i := 6) (by kernel_rfl) (by rfl) (fun K hK => ?_)
        refine step_append_own rfl (.tmp 24) (.tmp 29) 48 rfl (w.heap.size + 1 + 1 + 1) 58 i0 .nilFunc 1 8 Try.underlying48 hi hz0 hz1 hz2 rfl (by decide) (.slice av k cv) k vs ?c6 hown5 ⟨w4.heap.size, 0, none⟩ 1 1 [.func (.func f4) #[] cs4] ?c7 rfl ?c1 ?c2 ?c3 ?c4 ?c5 ?_
        case c6 => simp [Act.eval, Act.put]
        case c7 => simp [Act.eval, Act.put]; done
        case c1 => (intro j u hj; rcases j with _ | j <;> simp at hj; subst hj; simp [go_sem]; done)
        case c2 => simp [Value.oneCell']
        case c3 => unfold maxLen; omega
        case c4 => omega
        case c5 => have := hst5.hs; simp at this; simp; omega
        intro v6 w6 hown6 hgr6
        have hrk : ∀ b, (Value.slice av k cv).ownBlock = some b → w.heap.size + 1 + 1 < b := fun b e => by have := own_block hown5 e; omega
        have hst6 := hst5.grown hgr6 hrk
        have hbk6 := hbk5.grown hgr6 (hbk5.ne_row hown5 (by decide))
        refine hK.out _ _ (Or.inr (HS9.out _ hst6 hbk6)) (fun hHeld => ?_)
        clear hK
        clear K
        (try simp only [Act.put, List.setIfInBounds_toArray, List.set_cons_zero, List.set_cons_succ])
        have c61 := hst6.c1
        have z61 := hst6.z1
        obtain ⟨av6, cv6, rfl⟩ := owns_shape hown6
        refine wpAnyT_one (i := 7) (by kernel_rfl) (by rfl) (fun K hK => ?_)
        go_simp
        refine hK.out _ _ (Or.inl rfl) (fun _ => ?_)
        refine wpAnyT_done (by kernel_rfl) ?_ _
        refine NoPanic.normal ?_
        clear hK
        clear K
        go_wp2
        go_roundw
        case rel =>
          have hb6 : Below w.heap.size w w6 := (bstep (bstep hbel hbel4) hb5).grown hgr6 (by have := hst5.hs; omega) (fun b e => by have := hrk b e; omega)
          refine ⟨k + 1, .slice av6 (k + 1) cv6, vs ++ [.func (.func f4) #[] cs4], by omega, by go_num, hnext, own_set hown6 (by have := own_ne hown6 (b := w.heap.size + 1) (by omega); simpa using this) _, ?_, hst6.put, bset hb6 (by simp) _⟩
          refine Lib.hid (fun j q hj hq => ?_)
          have hvl : vs.length = k := by have := hown5.1; omega
          by_cases e : j = k
          · subst e
            rw [HP9.out] at hq
            injection hq with hq
            subst hq
            exact ⟨_, by rw [List.getElem?_append_right (by omega), hvl]; simp, (ht5.grown hown5 hgr6).put c61 _⟩
          · obtain ⟨u, hu, hut⟩ := htr.out j q (by omega) hq
            exact ⟨u, by rw [List.getElem?_append_left (by omega)]; exact hu, (((hut.later hbel4).later hb5).grown hown5 hgr6).put c61 _⟩
        case measure => simp [intOf]; omega
    · have hkn : k = l.length := by omega
      have hyes : pzB m l = true := pzB_all h1 h2 (fun j p hj hq => hall.out j p (by omega) hq)
      subst hkn
      have HYES := Lib.hid hyes
      clear hyes hL hall
      obtain ⟨q0, q1, q2, z1, z2, qs⟩ := id hst
      go_wp2
      refine leaves_cons (f := 34) (args := #[.pointer (some ⟨w.heap.size + 1, 0, none⟩), .pointer (some ⟨w.heap.size + 1 + 1, 0, none⟩)]) (by simp) (by simp [go_sem]) ?_
      refine (door_idl _ _ _).mono ?_
      rintro e u' w'' ⟨rfl, rfl, hb3⟩
      have hput := hst.put (v' := .slice av l.length cv)
      have o1 := own_set hown (p := ⟨w.heap.size + 1, 0, none⟩) (own_ne hown (b := w.heap.size + 1) (by omega)) (.slice av l.length cv)
      have o2 := own_set o1 (p := ⟨w.heap.size + 1 + 1, 0, none⟩) (own_ne o1 (b := w.heap.size + 1 + 1) (by omega)) (.bool true)
      have s1 : ((wr.setCell ⟨w.heap.size + 1, 0, none⟩ (.slice av l.length cv)).setCell ⟨w.heap.size + 1 + 1, 0, none⟩ (.bool true)).cell? ⟨w.heap.size + 1, 0, none⟩ = some (.slice av l.length cv) := by rw [World.cell?_setCell_far _ _ _ _ (by simp)]; exact hput.c1
      have s2 : ((wr.setCell ⟨w.heap.size + 1, 0, none⟩ (.slice av l.length cv)).setCell ⟨w.heap.size + 1 + 1, 0, none⟩ (.bool true)).cell? ⟨w.heap.size + 1 + 1, 0, none⟩ = some (.bool true) := World.cell?_setCell_same' _ _ _ (by rw [hput.c2]; rfl)
      have d1 := keepa hb3 (by simp; omega) s1
      have d2 := keepa hb3 (by simp; omega) s2
      have hB : Below w.heap.size w w'' := by (repeat (first | with_reducible exact Below.refl _ _ | with_reducible assumption | with_reducible refine balloc ?_ _ | with_reducible refine bdrew ?_ | with_reducible refine below_drewN ?_ _ | with_reducible refine bset ?_ ?_ _ | with_reducible exact Nat.le_refl _ | with_reducible refine bsize ?_ | (dsimp only; refine Nat.le_trans ?_ (Nat.le_add_right _ _)) | with_reducible refine Nat.le_trans ?_ (Nat.le_add_right _ _) | (with_reducible refine bstep ?_ (by assumption))))
      have hown9 := own_mono (ownsRow_below o2 hb3) (by omega : w.heap.size ≤ w.heap.size + 1 + 1 + 1)
      have htr9 : ∀ (i : Nat) (p : ClueV), l[i]? = some p → ∃ u, vs[i]? = some u ∧ TrialAt m p u w'' := by
        intro i p hq
        obtain ⟨u, hu, hut⟩ := htr.out i p ((List.getElem?_eq_some_iff.1 hq).1) hq
        exact ⟨u, hu, ((hut.put q1 _).putB hput.c2 _).later hb3⟩
      have HF := Lib.hid (And.intro hown9 htr9)
      clear hown9 htr9 o1 o2 s1 s2 hb3 hown htr
      simp [Leaves, settle, results, Try.results26, go_sem, d1, d2]
      have hyes := HYES.out
      refine ⟨_, by rw [hyes], hB, fun _ => ⟨vs, HF.out.1, HF.out.2⟩, fun h => by rw [hyes] at h; cases h⟩
/-- The trials of a puzzle, whatever it is. -/
theorem trials_impl (m : Int) (bm : (-9223372036854775808 ≤ m ∧ m ≤ 9223372036854775807)) (v : Value) (l : List ClueV) (w : World) (h : RowG 3 fClue w v l) :
    Calls Try.prog 26 #[.agg #[.int .i64 m, v]] w (EndTr m l w) := by
  have h' := h
  obtain ⟨a0, c0, rfl, hl1, hl2⟩ := row_shape h'
  cases h1 : miB m
  · exact trials_no m bm a0 l.length c0 l rfl w hl1 hl2 (Or.inl h1)
  · by_cases h2 : l.length ≤ 8
    · rcases h with ⟨hv, rfl⟩ | ⟨a, cap, hv, hL⟩
      · injection hv with e1 e2 e3
        subst e1 e3
        exact trials_nil m bm w h1
      · injection hv with e1 e2 e3
        subst e1 e3
        exact trials_some m bm a c0 l w h1 h2 hL
    · exact trials_no m bm a0 l.length c0 l rfl w hl1 hl2 (Or.inr ⟨h1, h2⟩)
end Go.Proofs.Ythhmmdapoaeeiaa
