/- Plans: trips to the next depot: what they come to; the program. -/
import Derived.Test.YtjmmlknbdmngeaaPlanC
namespace Go.Proofs.Ytjmmlknbdmngeaa
open Go.ChangeShapes Go.WideShapes Go.ChangeAt Go.RowKit Go.Joins
set_option maxRecDepth 100000
set_option linter.unusedVariables false
set_option linter.unusedSimpArgs false


/-- A plan as it is: its steps, its tank. -/
structure PlS where
  l : List StepV
  n : Int
  d : Int
def pAdd (s : PlS) (k p q : Int) : PlS := ⟨s.l ++ [⟨k, p, q⟩], tnN k s.n s.d p q, tnD k s.n s.d p q⟩
def rmN (s : PlS) : Int := lowN (1 * s.d - s.n * 1) (1 * s.d)
def rmD (s : PlS) : Int := lowD (1 * s.d - s.n * 1) (1 * s.d)
def pFill (s : PlS) : PlS := pAdd s 3 (rmN s) (rmD s)
def pTrip (s : PlS) (p q c e : Int) : PlS := pAdd (pAdd (pAdd (pFill s) 0 p q) 2 c e) 1 p q
def pTrips (s : PlS) (p q c e : Int) : Nat → PlS
  | 0 => s
  | k + 1 => pTrip (pTrips s p q c e k) p q c e
def pBring (s : PlS) (p q c e : Int) (k : Nat) : PlS := pAdd (pFill (pTrips s p q c e k)) 0 p q
def okS (s : PlS) : Bool := amB s.n s.d && decide (s.l.length ≤ 900)
def okFill (s : PlS) : Bool := okS s && (amB (rmN s) (rmD s) && (lowB (1 * s.d - s.n * 1) (1 * s.d) && decide (rmN s ≠ 0)))
def okTrip (s : PlS) (p q c e : Int) : Bool := okFill s && (okS (pFill s) && (okS (pAdd (pFill s) 0 p q) && okS (pAdd (pAdd (pFill s) 0 p q) 2 c e)))
def okBring (s : PlS) (p q c e : Int) (k : Nat) : Bool := (amB p q && amB c e) && ((List.range k).all (fun j => okTrip (pTrips s p q c e j) p q c e) && (okFill (pTrips s p q c e k) && okS (pFill (pTrips s p q c e k))))
theorem okS_parts (s : PlS) (h : okS s = true) : amB s.n s.d = true ∧ s.l.length ≤ 900 := by simpa [okS] using h
theorem okFill_parts (s : PlS) (h : okFill s = true) : okS s = true ∧ amB (rmN s) (rmD s) = true ∧ lowB (1 * s.d - s.n * 1) (1 * s.d) = true ∧ rmN s ≠ 0 := by simpa [okFill] using h
theorem okTrip_parts (s : PlS) (p q c e : Int) (h : okTrip s p q c e = true) : okFill s = true ∧ okS (pFill s) = true ∧ okS (pAdd (pFill s) 0 p q) = true ∧ okS (pAdd (pAdd (pFill s) 0 p q) 2 c e) = true := by simpa [okTrip] using h
theorem okBring_parts (s : PlS) (p q c e : Int) (k : Nat) (h : okBring s p q c e k = true) : amB p q = true ∧ amB c e = true ∧ (∀ j, j < k → okTrip (pTrips s p q c e j) p q c e = true) ∧ okFill (pTrips s p q c e k) = true ∧ okS (pFill (pTrips s p q c e k)) = true := by
  simp only [okBring, Bool.and_eq_true, List.all_eq_true, List.mem_range] at h
  exact ⟨h.1.1, h.1.2, h.2.1, h.2.2.1, h.2.2.2⟩
def PlanAt (g : Nat) (W : World) (s : PlS) : Prop := ∃ v, PlanSt g W v s.l s.n s.d
/-- An amount in a block of its own. -/
structure BoxAt (W : World) (b : Nat) (p q : Int) : Prop where
  c0 : W.cell? ⟨b, 0, none⟩ = some (.int .i64 p)
  c1 : W.cell? ⟨b, 1, none⟩ = some (.int .i64 q)
  ns : ¬ StepBlk W b
  sz : b < W.heap.size
theorem BoxAt.keep {W W' : World} {g b : Nat} {p q : Int} (h : BoxAt W b p q) (hk : PlanKeep g W W') (hg : b ≠ g) : BoxAt W' b p q :=
  ⟨hk.cell h.sz hg h.ns h.c0, hk.cell h.sz hg h.ns h.c1, hk.nots h.sz hg h.ns, Nat.lt_of_lt_of_le h.sz hk.size⟩
theorem BoxAt.new (w : World) (p q : Int) : BoxAt (w.alloc (.cells #[.int .i64 p, .int .i64 q] 23)) w.heap.size p q := by
  refine ⟨by simp [go_sem], by simp [go_sem], ?_, by simp⟩
  rintro ⟨cs, fz, e⟩
  have h : (w.alloc (.cells #[.int .i64 p, .int .i64 q] 23)).heap[w.heap.size]? = some (.cells #[.int .i64 p, .int .i64 q] 23 (0, 0)) := by show (w.heap.push _)[w.heap.size]? = _; simp
  rw [h] at e
  simp at e
theorem BoxAt.alloc {W : World} {b : Nat} {p q : Int} (h : BoxAt W b p q) (o : Obj) : BoxAt (W.alloc o) b p q := by
  have hb : (W.alloc o).heap[b]? = W.heap[b]? := (World.grownBy_alloc W o Option.none).block b h.sz (by simp)
  refine ⟨(World.cell?_of_block (a := ⟨b, 0, none⟩) hb).trans h.c0, (World.cell?_of_block (a := ⟨b, 1, none⟩) hb).trans h.c1, ?_, by have := h.sz; simp; omega⟩
  rintro ⟨cs, fz, e⟩
  rw [hb] at e
  exact h.ns ⟨cs, fz, e⟩

theorem addAt_impl (g : Nat) (s : PlS) (k p q : Int) (hs : okS s = true) (hp : amB p q = true) (w : World) (hP : PlanAt g w s) :
    Calls Try.prog 92 #[.pointer (some ⟨g, 0, none⟩), .int .i64 k, .agg #[.int .i64 p, .int .i64 q]] w fun e w' => e = .returned (.tuple #[]) ∧ PlanAt g w' (pAdd s k p q) ∧ PlanKeep g w w' := by
  obtain ⟨v, hv⟩ := hP
  obtain ⟨h1, h2⟩ := okS_parts s hs
  exact (add_impl g v s.l s.n s.d k p q h1 hp (by omega) w hv).mono fun e w' ⟨h, v', hp', hk⟩ => ⟨h, ⟨v', hp'⟩, hk⟩
theorem fillAt_impl (g : Nat) (s : PlS) (hs : okFill s = true) (w : World) (hP : PlanAt g w s) :
    Calls Try.prog 91 #[.pointer (some ⟨g, 0, none⟩)] w fun e w' => e = .returned (.tuple #[]) ∧ PlanAt g w' (pFill s) ∧ PlanKeep g w w' := by
  obtain ⟨v, hv⟩ := hP
  obtain ⟨h1, h2, h3, h4⟩ := okFill_parts s hs
  obtain ⟨h5, h6⟩ := okS_parts s h1
  exact (fill_impl g v s.l s.n s.d (rmN s) (rmD s) h5 h2 h4 h3 rfl rfl (by omega) w hv).mono fun e w' ⟨h, v', hp', hk⟩ => ⟨h, ⟨v', hp'⟩, hk⟩

theorem addAt_spec (g : Nat) (s : PlS) (k p q : Int) (hs : okS s = true) (hp : amB p q = true) (hp0 : p ≠ 0) (w : World) (hP : PlanAt g w s) :
    Calls Try.prog 85 #[.pointer (some ⟨g, 0, none⟩), .int .i64 k, .agg #[.int .i64 p, .int .i64 q]] w fun e w' => e = .returned (.tuple #[]) ∧ PlanAt g w' (pAdd s k p q) ∧ PlanKeep g w w' := by
  obtain ⟨v, hv⟩ := hP
  obtain ⟨h1, h2⟩ := okS_parts s hs
  exact (add_spec g v s.l s.n s.d k p q h1 hp hp0 (by omega) w hv).mono fun e w' ⟨h, v', hp', hk⟩ => ⟨h, ⟨v', hp'⟩, hk⟩
theorem fillAt_spec (g : Nat) (s : PlS) (hs : okFill s = true) (w : World) (hP : PlanAt g w s) :
    Calls Try.prog 114 #[.pointer (some ⟨g, 0, none⟩)] w fun e w' => e = .returned (.tuple #[]) ∧ PlanAt g w' (pFill s) ∧ PlanKeep g w w' := by
  obtain ⟨v, hv⟩ := hP
  obtain ⟨h1, h2, h3, h4⟩ := okFill_parts s hs
  obtain ⟨h5, h6⟩ := okS_parts s h1
  exact (fill_spec g v s.l s.n s.d (rmN s) (rmD s) h5 h2 h4 h3 rfl rfl (by omega) w hv).mono fun e w' ⟨h, v', hp', hk⟩ => ⟨h, ⟨v', hp'⟩, hk⟩

set_option maxHeartbeats 3200000 in
theorem bring_impl (g : Nat) (s : PlS) (p q c e : Int) (k : Nat) (hk : k ≤ 20) (hok : okBring s p q c e k = true) (w : World) (hg : g < w.heap.size) (hP : PlanAt g w s) :
    Calls Try.prog 90 #[.pointer (some ⟨g, 0, none⟩), .agg #[.int .i64 p, .int .i64 q], .agg #[.int .i64 c, .int .i64 e], .int .i64 k] w fun e' w' => e' = .returned (.tuple #[]) ∧ PlanAt g w' (pBring s p q c e k) ∧ PlanKeep g w w' := by
  obtain ⟨hp, hc, htr, hlf, hls⟩ := okBring_parts s p q c e k hok
  have HT := Lib.hid htr
  have HF := Lib.hid (fun (s' : PlS) (hs : okFill s' = true) (W : World) (h : PlanAt g W s') => fillAt_impl g s' hs W h)
  have HA := Lib.hid (fun (s' : PlS) (k' p' q' : Int) (hs : okS s' = true) (hp' : amB p' q' = true) (W : World) (h : PlanAt g W s') => addAt_impl g s' k' p' q' hs hp' W h)
  have HPP := Lib.hid hP
  clear htr hok hP
  go_enter Try.func90, Try.ntmps90
  go_wp2
  go_loopw [9] (fun i wr => ∃ j : Nat, j ≤ k ∧ i = .int .i64 j ∧ PlanAt g wr (pTrips s p q c e j) ∧ PlanKeep g w wr ∧ BoxAt wr w.heap.size p q ∧ BoxAt wr (w.heap.size + 1) c e) (fun i _ => k - (intOf i).toNat)
  case atStart =>
    have hx := BoxAt.new w p q
    have hy := BoxAt.new (w.alloc (.cells #[.int .i64 p, .int .i64 q] 23)) c e
    refine ⟨0, Nat.zero_le _, rfl, ?_, ((PlanKeep.refl g w).alloc hg _).alloc hg _, hx.alloc _, by simpa using hy⟩
    obtain ⟨v, hv⟩ := HPP.out
    exact ⟨v, (hv.later (by (repeat (first | with_reducible exact Below.refl _ _ | with_reducible assumption | with_reducible refine balloc ?_ _ | with_reducible refine bdrew ?_ | with_reducible refine below_drewN ?_ _ | with_reducible refine bset ?_ ?_ _ | with_reducible exact Nat.le_refl _ | with_reducible refine bsize ?_ | (dsimp only; refine Nat.le_trans ?_ (Nat.le_add_right _ _)) | with_reducible refine Nat.le_trans ?_ (Nat.le_add_right _ _) | (with_reducible refine bstep ?_ (by assumption)))))).later (by (repeat (first | with_reducible exact Below.refl _ _ | with_reducible assumption | with_reducible refine balloc ?_ _ | with_reducible refine bdrew ?_ | with_reducible refine below_drewN ?_ _ | with_reducible refine bset ?_ ?_ _ | with_reducible exact Nat.le_refl _ | with_reducible refine bsize ?_ | (dsimp only; refine Nat.le_trans ?_ (Nat.le_add_right _ _)) | with_reducible refine Nat.le_trans ?_ (Nat.le_add_right _ _) | (with_reducible refine bstep ?_ (by assumption)))))⟩
  case round =>
    obtain ⟨j, hj, rfl, hPj, hkp, hx, hy⟩ := hrel
    by_cases hlt : j < k
    · have ht := HT.out j hlt
      obtain ⟨o1, o2, o3, o4⟩ := okTrip_parts _ _ _ _ _ ht
      have hTT := Lib.hid (show pTrips s p q c e (j + 1) = pTrip (pTrips s p q c e j) p q c e from rfl)
      generalize pTrips s p q c e j = sj at *
      clear ht
      go_wp2_with fail
      refine (HF.out sj o1 _ hPj).mono ?_
      rintro e' w1 ⟨rfl, hP1, hk1⟩
      replace hx := hx.keep hk1 (by omega)
      replace hy := hy.keep hk1 (by omega)
      replace hkp := hkp.trans hk1
      have x0 := hx.c0
      have x1 := hx.c1
      have y0 := hy.c0
      have y1 := hy.c1
      clear hk1
      go_wp2_with fail
      refine (HA.out _ 0 p q o2 hp _ hP1).mono ?_
      rintro e' w2 ⟨rfl, hP2, hk2⟩
      replace hx := hx.keep hk2 (by omega)
      replace hy := hy.keep hk2 (by omega)
      replace hkp := hkp.trans hk2
      replace x0 := hx.c0
      replace x1 := hx.c1
      replace y0 := hy.c0
      replace y1 := hy.c1
      clear hk2
      go_wp2_with fail
      refine (HA.out _ 2 c e o3 hc _ hP2).mono ?_
      rintro e' w3 ⟨rfl, hP3, hk3⟩
      replace hx := hx.keep hk3 (by omega)
      replace hy := hy.keep hk3 (by omega)
      replace hkp := hkp.trans hk3
      replace x0 := hx.c0
      replace x1 := hx.c1
      clear hk3 y0 y1
      go_wp2_with fail
      refine (HA.out _ 1 p q o4 hp _ hP3).mono ?_
      rintro e' w4 ⟨rfl, hP4, hk4⟩
      replace hx := hx.keep hk4 (by omega)
      replace hy := hy.keep hk4 (by omega)
      replace hkp := hkp.trans hk4
      clear hk4 x0 x1
      go_wp2
      go_roundw
      case rel => exact ⟨j + 1, by omega, by go_num, by rw [hTT.out]; exact hP4, hkp, hx, hy⟩
      case measure => first | (simp [intOf]; done) | (simp [intOf]; omega)
    · obtain rfl : j = k := by omega
      generalize hE : pBring s p q c e j = sE at *
      have HE := Lib.hid hE
      clear hE
      go_wp2_with fail
      refine (HF.out _ hlf _ hPj).mono ?_
      rintro e' w1 ⟨rfl, hP1, hk1⟩
      replace hx := hx.keep hk1 (by omega)
      replace hkp := hkp.trans hk1
      have x0 := hx.c0
      have x1 := hx.c1
      clear hk1
      go_wp2_with fail
      refine (HA.out _ 0 p q hls hp _ hP1).mono ?_
      rintro e' w2 ⟨rfl, hP2, hk2⟩
      go_wp2
      go_end0
      exact ⟨rfl, by first | exact hP2 | (rw [← HE.out]; exact hP2), hkp.trans hk2⟩

end Go.Proofs.Ytjmmlknbdmngeaa
