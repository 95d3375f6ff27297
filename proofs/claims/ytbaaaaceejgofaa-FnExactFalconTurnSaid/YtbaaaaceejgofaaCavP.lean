/- The falcon's turns: plain facts; a flight up to its next turn, of the program. -/
import Derived.Test.YtbaaaaceejgofaaCavL
import Derived.Test.YtbaaaaceejgofaaReck1
import Derived.Test.YtbaaaaceejgofaaReck3
import Derived.Test.YtbaaaaceejgofaaReck4
namespace Go.Proofs.Ytbaaaaceejgofaa
open Go.ChangeShapes Go.WideShapes Go.ChangeAt Go.RowKit Go.Joins
set_option maxRecDepth 100000
set_option linter.unusedVariables false
set_option linter.unusedSimpArgs false

/-- A flight: is it told; its time; the way that is left. -/
structure FtV where
  ok : Bool
  x : Int
  y : Int
  g : Int
  h : Int
def ftP (F nx g h : Int) : Int := lowN g (h * (F + nx))
def ftQ (F nx g h : Int) : Int := lowD g (h * (F + nx))
def ftStep (F fr nx : Int) (s : FtV) : FtV :=
  { ok := s.ok && (lowB s.g (s.h * (F + nx)) && lowB (s.x * ftQ F nx s.g s.h + ftP F nx s.g s.h * s.y) (s.y * ftQ F nx s.g s.h) && lowB (s.g * (F - fr)) (s.h * (F + nx)))
    x := lowN (s.x * ftQ F nx s.g s.h + ftP F nx s.g s.h * s.y) (s.y * ftQ F nx s.g s.h)
    y := lowD (s.x * ftQ F nx s.g s.h + ftP F nx s.g s.h * s.y) (s.y * ftQ F nx s.g s.h)
    g := lowN (s.g * (F - fr)) (s.h * (F + nx))
    h := lowD (s.g * (F - fr)) (s.h * (F + nx)) }
def ftFr (a b : Int) (k : Nat) : Int := if k % 2 = 0 then a else b
def ftTo (a b : Int) (k : Nat) : Int := if k % 2 = 0 then b else a
def ftAt (l a b F : Int) : Nat → FtV
  | 0 => { ok := true, x := 0, y := 1, g := l, h := 1 }
  | k + 1 => ftStep F (ftFr a b k) (ftTo a b k) (ftAt l a b F k)
theorem ft_swap (a b : Int) (k : Nat) : ftFr a b (k + 1) = ftTo a b k ∧ ftTo a b (k + 1) = ftFr a b k := by
  unfold ftFr ftTo
  by_cases h : k % 2 = 0
  · rw [if_pos h, if_pos h, if_neg (by omega), if_neg (by omega)]; exact ⟨rfl, rfl⟩
  · rw [if_neg h, if_neg h, if_pos (by omega), if_pos (by omega)]; exact ⟨rfl, rfl⟩
theorem ft_prev {l a b F : Int} {k : Nat} (h : (ftAt l a b F (k + 1)).ok = true) : (ftAt l a b F k).ok = true := by
  have : (ftStep F (ftFr a b k) (ftTo a b k) (ftAt l a b F k)).ok = true := h
  unfold ftStep at this
  simp only [Bool.and_eq_true] at this
  exact this.1
theorem ft_mono {l a b F : Int} {k n : Nat} (hkn : k ≤ n) (h : (ftAt l a b F n).ok = true) : (ftAt l a b F k).ok = true := by
  induction n with
  | zero => rw [show k = 0 by omega]; exact h
  | succ n ih =>
    by_cases e : k = n + 1
    · rw [e]; exact h
    · exact ih (by omega) (ft_prev h)
/-- What is told of a flight are amounts. -/
theorem ft_am {l a b F : Int} (hl : 1 ≤ l ∧ l ≤ 1000) : ∀ k : Nat, (ftAt l a b F k).ok = true → amB (ftAt l a b F k).x (ftAt l a b F k).y = true ∧ amB (ftAt l a b F k).g (ftAt l a b F k).h = true
  | 0, _ => ⟨am_whole 0 (by omega) (by omega), am_whole l (by omega) (by omega)⟩
  | k + 1, h => by
    have h2 : (ftStep F (ftFr a b k) (ftTo a b k) (ftAt l a b F k)).ok = true := h
    unfold ftStep at h2
    simp only [Bool.and_eq_true] at h2
    exact ⟨amB_low _ _ h2.2.1.2, amB_low _ _ h2.2.2⟩
theorem amB_of_low (n d : Int) : amB (lowN n d) (lowD n d) = lowB n d := by
  cases h : lowB n d
  · rw [lowN_no _ _ h, lowD_no _ _ h]; rfl
  · exact amB_low _ _ h
/-- A block of six cells that may be written. -/
def Res6 (b : Nat) (w : World) : Prop := (∀ o, o < 6 → ∃ x, w.cell? ⟨b, o, none⟩ = some x ∧ w.frozen? ⟨b, o, none⟩ = false) ∧ b < w.heap.size
theorem Res6.later {b : Nat} {w w' : World} (h : Res6 b w) (hb : Below w.heap.size w w') : Res6 b w' :=
  ⟨fun o ho => by obtain ⟨x, h1, h2⟩ := h.1 o ho; exact ⟨x, keepa hb h.2 h1, keepz hb h.2 h2⟩, Nat.lt_of_lt_of_le h.2 hb.size⟩
/-- What a turn tells. -/
def tnOk (x y g h fr nx F : Int) : Bool := lowB g (h * (F + nx)) && lowB (x * ftQ F nx g h + ftP F nx g h * y) (y * ftQ F nx g h) && lowB (g * (F - fr)) (h * (F + nx))
set_option maxHeartbeats 12800000 in
theorem turn_impl (x y g h fr nx F : Int) (h1 : amB x y = true) (h2 : amB g h = true) (hfr : 1 ≤ fr ∧ fr < F) (hto : 1 ≤ nx ∧ nx < F) (hF : F ≤ 1000) (w : World) :
    Calls Try.prog 20 #[.agg #[.int .i64 x, .int .i64 y, .int .i64 g, .int .i64 h, .int .i64 fr, .int .i64 nx], .int .i64 F] w fun e w' => (∃ x' y' g' h' : Int, e = .returned (.tuple #[.agg #[.int .i64 x', .int .i64 y', .int .i64 g', .int .i64 h', .int .i64 nx, .int .i64 fr], .bool (tnOk x y g h fr nx F)]) ∧ (tnOk x y g h fr nx F = true → x' = lowN (x * ftQ F nx g h + ftP F nx g h * y) (y * ftQ F nx g h) ∧ y' = lowD (x * ftQ F nx g h + ftP F nx g h * y) (y * ftQ F nx g h) ∧ g' = lowN (g * (F - fr)) (h * (F + nx)) ∧ h' = lowD (g * (F - fr)) (h * (F + nx)))) ∧ Below w.heap.size w w' := by
  have A1 := am_of x y h1
  have A2 := am_of g h h2
  have bx : -9223372036854775808 ≤ x ∧ x ≤ 9223372036854775807 := by have := A1.a; have := A1.b; omega
  have by0 : -9223372036854775808 ≤ y ∧ y ≤ 9223372036854775807 := by have := A1.c; have := A1.d; omega
  have bg : -9223372036854775808 ≤ g ∧ g ≤ 9223372036854775807 := by have := A2.a; have := A2.b; omega
  have bh : -9223372036854775808 ≤ h ∧ h ≤ 9223372036854775807 := by have := A2.c; have := A2.d; omega
  have HWa := Lib.hid (fun W => whole9 (F + nx) W)
  have HWb := Lib.hid (fun W => whole9 (F - fr) W)
  have k1 : okk g h (F + nx) 1 = true := by simp [okk, h2, am_whole (F + nx) (by omega) (by omega)]
  have HP := Lib.hid (fun W => dividedBy_pub_impl g h (F + nx) 1 bg bh (by omega) (by omega) W)
  have hP0 := HP.out
  rw [k1, (two_yes _ _).1, (two_yes _ _).2.1, (two_yes _ _).2.2, Int.mul_one] at hP0
  have HP := Lib.hid hP0
  clear hP0 k1
  have epq : ftP F nx g h = lowN g (h * (F + nx)) ∧ ftQ F nx g h = lowD g (h * (F + nx)) := ⟨rfl, rfl⟩
  have hpq := amB_of_low g (h * (F + nx))
  rw [← epq.1, ← epq.2] at hpq
  rw [← epq.1, ← epq.2] at HP
  have bpq : (-9223372036854775808 ≤ ftP F nx g h ∧ ftP F nx g h ≤ 9223372036854775807) ∧ -9223372036854775808 ≤ ftQ F nx g h ∧ ftQ F nx g h ≤ 9223372036854775807 := by
    cases hl : lowB g (h * (F + nx))
    · rw [epq.1, epq.2, lowN_no _ _ hl, lowD_no _ _ hl]; omega
    · have e := low_eq g (h * (F + nx)) hl
      rw [epq.1, epq.2]; omega
  have k2 : okk x y (ftP F nx g h) (ftQ F nx g h) = lowB g (h * (F + nx)) := by simp [okk, h1, hpq]
  have k3 : okk (ftP F nx g h) (ftQ F nx g h) (F - fr) 1 = lowB g (h * (F + nx)) := by simp [okk, hpq, am_whole (F - fr) (by omega) (by omega)]
  have HA := Lib.hid (fun W => plus_pub_impl x y (ftP F nx g h) (ftQ F nx g h) bx by0 bpq.1 bpq.2 W)
  have HT := Lib.hid (fun W => times_pub_impl (ftP F nx g h) (ftQ F nx g h) (F - fr) 1 bpq.1 bpq.2 (by omega) (by omega) W)
  rw [k2] at HA
  rw [k3] at HT
  have hT0 := HT.out
  rw [Int.mul_one] at hT0
  have HT := Lib.hid hT0
  clear hT0
  -- what is told, and when
  have hval : ∀ (b1 b2 : Bool) (x' y' g' h' : Int), b1 = twoB (lowB g (h * (F + nx))) (x * ftQ F nx g h + ftP F nx g h * y) (y * ftQ F nx g h) → x' = twoN (lowB g (h * (F + nx))) (x * ftQ F nx g h + ftP F nx g h * y) (y * ftQ F nx g h) → y' = twoD (lowB g (h * (F + nx))) (x * ftQ F nx g h + ftP F nx g h * y) (y * ftQ F nx g h) →
      b2 = twoB (lowB g (h * (F + nx))) (ftP F nx g h * (F - fr)) (ftQ F nx g h) → g' = twoN (lowB g (h * (F + nx))) (ftP F nx g h * (F - fr)) (ftQ F nx g h) → h' = twoD (lowB g (h * (F + nx))) (ftP F nx g h * (F - fr)) (ftQ F nx g h) →
      (b1 && b2) = tnOk x y g h fr nx F ∧ (tnOk x y g h fr nx F = true → x' = lowN (x * ftQ F nx g h + ftP F nx g h * y) (y * ftQ F nx g h) ∧ y' = lowD (x * ftQ F nx g h + ftP F nx g h * y) (y * ftQ F nx g h) ∧ g' = lowN (g * (F - fr)) (h * (F + nx)) ∧ h' = lowD (g * (F - fr)) (h * (F + nx))) := by
    intro b1 b2 x' y' g' h' e1 e2 e3 e4 e5 e6
    cases hl : lowB g (h * (F + nx))
    · have hz : tnOk x y g h fr nx F = false := by simp [tnOk, hl]
      rw [hl, (two_no _ _).2.2] at e1
      rw [hz, e1]
      exact ⟨rfl, fun h => by cases h⟩
    · obtain ⟨q1, q2, q3⟩ := low_times g (h * (F + nx)) (F - fr) hl
      rw [Int.mul_comm (F - fr) g] at q1 q2 q3
      rw [hl] at e1 e2 e3 e4 e5 e6
      rw [(two_yes _ _).2.2] at e1 e4
      rw [(two_yes _ _).1] at e2 e5
      rw [(two_yes _ _).2.1] at e3 e6
      rw [epq.1, epq.2] at e4 e5 e6
      rw [q1] at e4
      rw [q2] at e5
      rw [q3] at e6
      have hz : tnOk x y g h fr nx F = (b1 && b2) := by simp [tnOk, hl, e1, e4]
      exact ⟨hz.symm, fun _ => ⟨e2, e3, e5, e6⟩⟩
  replace hval := Lib.hid hval
  have hok : ∃ B, B = tnOk x y g h fr nx F := ⟨_, rfl⟩
  clear epq hpq bpq k2 k3 A1 A2 h1 h2
  obtain ⟨L, hL⟩ : ∃ L, L = lowB g (h * (F + nx)) := ⟨_, rfl⟩
  rw [← hL] at HP HA HT hval
  clear hok hL
  generalize ftP F nx g h = p at *
  generalize ftQ F nx g h = q at *
  obtain ⟨X1, hX1⟩ : ∃ X, X = twoN L (x * q + p * y) (y * q) := ⟨_, rfl⟩
  obtain ⟨Y1, hY1⟩ : ∃ X, X = twoD L (x * q + p * y) (y * q) := ⟨_, rfl⟩
  obtain ⟨B1, hB1⟩ : ∃ X, X = twoB L (x * q + p * y) (y * q) := ⟨_, rfl⟩
  obtain ⟨X2, hX2⟩ : ∃ X, X = twoN L (p * (F - fr)) q := ⟨_, rfl⟩
  obtain ⟨Y2, hY2⟩ : ∃ X, X = twoD L (p * (F - fr)) q := ⟨_, rfl⟩
  obtain ⟨B2, hB2⟩ : ∃ X, X = twoB L (p * (F - fr)) q := ⟨_, rfl⟩
  have hv := Lib.hid (hval.out B1 B2 X1 Y1 X2 Y2 hB1 hX1 hY1 hB2 hX2 hY2)
  rw [← hX1, ← hY1, ← hB1] at HA
  rw [← hX2, ← hY2, ← hB2] at HT
  clear hval hX1 hY1 hB1 hX2 hY2 hB2
  go_enter Try.func20, Try.ntmps20
  go_upto_region 1 with fail
  change Code.wp _ _ _ _ ((w.alloc (.cells #[.int .i64 x, .int .i64 y, .int .i64 g, .int .i64 h, .int .i64 fr, .int .i64 nx] 39)).alloc (.cells #[.int .i64 0, .int .i64 0, .int .i64 0, .int .i64 0, .int .i64 0, .int .i64 0] 39))
  have c1 : (((w.alloc (.cells #[.int .i64 x, .int .i64 y, .int .i64 g, .int .i64 h, .int .i64 fr, .int .i64 nx] 39)).alloc (.cells #[.int .i64 0, .int .i64 0, .int .i64 0, .int .i64 0, .int .i64 0, .int .i64 0] 39))).cell? ⟨w.heap.size, 0, none⟩ = some (.int .i64 x) := by first | (simp; done) | (simp [go_sem]; done)
  have c2 : (((w.alloc (.cells #[.int .i64 x, .int .i64 y, .int .i64 g, .int .i64 h, .int .i64 fr, .int .i64 nx] 39)).alloc (.cells #[.int .i64 0, .int .i64 0, .int .i64 0, .int .i64 0, .int .i64 0, .int .i64 0] 39))).cell? ⟨w.heap.size, 1, none⟩ = some (.int .i64 y) := by first | (simp; done) | (simp [go_sem]; done)
  have c3 : (((w.alloc (.cells #[.int .i64 x, .int .i64 y, .int .i64 g, .int .i64 h, .int .i64 fr, .int .i64 nx] 39)).alloc (.cells #[.int .i64 0, .int .i64 0, .int .i64 0, .int .i64 0, .int .i64 0, .int .i64 0] 39))).cell? ⟨w.heap.size, 2, none⟩ = some (.int .i64 g) := by first | (simp; done) | (simp [go_sem]; done)
  have c4 : (((w.alloc (.cells #[.int .i64 x, .int .i64 y, .int .i64 g, .int .i64 h, .int .i64 fr, .int .i64 nx] 39)).alloc (.cells #[.int .i64 0, .int .i64 0, .int .i64 0, .int .i64 0, .int .i64 0, .int .i64 0] 39))).cell? ⟨w.heap.size, 3, none⟩ = some (.int .i64 h) := by first | (simp; done) | (simp [go_sem]; done)
  have c5 : (((w.alloc (.cells #[.int .i64 x, .int .i64 y, .int .i64 g, .int .i64 h, .int .i64 fr, .int .i64 nx] 39)).alloc (.cells #[.int .i64 0, .int .i64 0, .int .i64 0, .int .i64 0, .int .i64 0, .int .i64 0] 39))).cell? ⟨w.heap.size, 4, none⟩ = some (.int .i64 fr) := by first | (simp; done) | (simp [go_sem]; done)
  have c6 : (((w.alloc (.cells #[.int .i64 x, .int .i64 y, .int .i64 g, .int .i64 h, .int .i64 fr, .int .i64 nx] 39)).alloc (.cells #[.int .i64 0, .int .i64 0, .int .i64 0, .int .i64 0, .int .i64 0, .int .i64 0] 39))).cell? ⟨w.heap.size, 5, none⟩ = some (.int .i64 nx) := by first | (simp; done) | (simp [go_sem]; done)
  have hR : Res6 (w.heap.size + 1) ((w.alloc (.cells #[.int .i64 x, .int .i64 y, .int .i64 g, .int .i64 h, .int .i64 fr, .int .i64 nx] 39)).alloc (.cells #[.int .i64 0, .int .i64 0, .int .i64 0, .int .i64 0, .int .i64 0, .int .i64 0] 39)) := by
    refine ⟨fun o ho => ?_, by simp⟩
    have : o = 0 ∨ o = 1 ∨ o = 2 ∨ o = 3 ∨ o = 4 ∨ o = 5 := by omega
    rcases this with rfl | rfl | rfl | rfl | rfl | rfl <;> exact ⟨.int .i64 0, by simp [go_sem], by simp [go_sem]⟩
  have hbw : Below w.heap.size w (((w.alloc (.cells #[.int .i64 x, .int .i64 y, .int .i64 g, .int .i64 h, .int .i64 fr, .int .i64 nx] 39)).alloc (.cells #[.int .i64 0, .int .i64 0, .int .i64 0, .int .i64 0, .int .i64 0, .int .i64 0] 39))) := by (repeat (first | with_reducible exact Below.refl _ _ | with_reducible assumption | with_reducible refine balloc ?_ _ | with_reducible refine bdrew ?_ | with_reducible refine below_drewN ?_ _ | with_reducible refine bset ?_ ?_ _ | with_reducible exact Nat.le_refl _ | with_reducible refine bsize ?_ | (dsimp only; refine Nat.le_trans ?_ (Nat.le_add_right _ _)) | with_reducible refine Nat.le_trans ?_ (Nat.le_add_right _ _) | (with_reducible refine bstep ?_ (by assumption))))
  have a0 : w.heap.size < (((w.alloc (.cells #[.int .i64 x, .int .i64 y, .int .i64 g, .int .i64 h, .int .i64 fr, .int .i64 nx] 39)).alloc (.cells #[.int .i64 0, .int .i64 0, .int .i64 0, .int .i64 0, .int .i64 0, .int .i64 0] 39))).heap.size := by simp
  generalize (((w.alloc (.cells #[.int .i64 x, .int .i64 y, .int .i64 g, .int .i64 h, .int .i64 fr, .int .i64 nx] 39)).alloc (.cells #[.int .i64 0, .int .i64 0, .int .i64 0, .int .i64 0, .int .i64 0, .int .i64 0] 39))) = V at *
  have wq1 : IntKind.i64.wrap (F + nx) = F + nx := IntWalk.i64_in _ (by omega)
  have wq2 : IntKind.i64.wrap (F - fr) = F - fr := IntWalk.i64_in _ (by omega)
  go_cut [6] (fun s6 wx => ∃ g : Nat, s6 = .pointer (some ⟨g, 0, none⟩) ∧ wx.cell? ⟨g, 0, none⟩ = some (.int .i64 p) ∧ wx.cell? ⟨g, 1, none⟩ = some (.int .i64 q) ∧ g < wx.heap.size ∧ Below V.heap.size V wx)
  case first =>
    have hS1 := Lib.hid (fun (W : World) (hW0 : Below V.heap.size V W) => (⟨hW0, keepa (W0 := V) hW0 a0 c1, keepa (W0 := V) hW0 a0 c2, keepa (W0 := V) hW0 a0 c3, keepa (W0 := V) hW0 a0 c4, keepa (W0 := V) hW0 a0 c5, keepa (W0 := V) hW0 a0 c6⟩ : Below V.heap.size V W ∧ W.cell? ⟨w.heap.size, 0, none⟩ = some (.int .i64 x) ∧ W.cell? ⟨w.heap.size, 1, none⟩ = some (.int .i64 y) ∧ W.cell? ⟨w.heap.size, 2, none⟩ = some (.int .i64 g) ∧ W.cell? ⟨w.heap.size, 3, none⟩ = some (.int .i64 h) ∧ W.cell? ⟨w.heap.size, 4, none⟩ = some (.int .i64 fr) ∧ W.cell? ⟨w.heap.size, 5, none⟩ = some (.int .i64 nx)))
    go_region_held3 (fun W => Below V.heap.size V W ∧ W.cell? ⟨w.heap.size, 0, none⟩ = some (.int .i64 x) ∧ W.cell? ⟨w.heap.size, 1, none⟩ = some (.int .i64 y) ∧ W.cell? ⟨w.heap.size, 2, none⟩ = some (.int .i64 g) ∧ W.cell? ⟨w.heap.size, 3, none⟩ = some (.int .i64 h) ∧ W.cell? ⟨w.heap.size, 4, none⟩ = some (.int .i64 fr) ∧ W.cell? ⟨w.heap.size, 5, none⟩ = some (.int .i64 nx)) ((refine hS1.out _ ?_; first | with_reducible assumption | ((repeat (first | with_reducible exact Below.refl _ _ | with_reducible assumption | with_reducible refine balloc ?_ _ | with_reducible refine bdrew ?_ | with_reducible refine below_drewN ?_ _ | with_reducible refine bset ?_ ?_ _ | with_reducible exact Nat.le_refl _ | with_reducible refine bsize ?_ | (dsimp only; refine Nat.le_trans ?_ (Nat.le_add_right _ _)) | with_reducible refine Nat.le_trans ?_ (Nat.le_add_right _ _) | (with_reducible refine bstep ?_ (by assumption)))); done))) (first | (go_at_call 19; refine (HWa.out _).mono ?_; rintro e w3 ⟨rfl, hb3⟩; (try have fq := Res8.later (by first | with_reducible assumption | with_reducible exact Res8.drew (by with_reducible assumption) | exact Res8.newd _ _ _ _ | exact Res8.new _ _ _ _ | exact Res8.drew (Res8.newd _ _ _ _) | exact Res8.drew (Res8.new _ _ _ _)) hb3); (try (have fq2 := fq; obtain ⟨rx, ry, r1, r2, r3, r4, rz⟩ := fq2)); (have f0 := bstep (by first | with_reducible assumption | ((repeat (first | with_reducible exact Below.refl _ _ | with_reducible assumption | with_reducible refine balloc ?_ _ | with_reducible refine bdrew ?_ | with_reducible refine below_drewN ?_ _ | with_reducible refine bset ?_ ?_ _ | with_reducible exact Nat.le_refl _ | with_reducible refine bsize ?_ | (dsimp only; refine Nat.le_trans ?_ (Nat.le_add_right _ _)) | with_reducible refine Nat.le_trans ?_ (Nat.le_add_right _ _) | (with_reducible refine bstep ?_ (by assumption)))); done) : Below V.heap.size V _) hb3); (have f1 := hS1.out _ f0); go_split_ands) | (go_at_call 25; refine (HP.out _).mono ?_; rintro e w3 ⟨rfl, hb3⟩; (try have fq := Res8.later (by first | with_reducible assumption | with_reducible exact Res8.drew (by with_reducible assumption) | exact Res8.newd _ _ _ _ | exact Res8.new _ _ _ _ | exact Res8.drew (Res8.newd _ _ _ _) | exact Res8.drew (Res8.new _ _ _ _)) hb3); (try (have fq2 := fq; obtain ⟨rx, ry, r1, r2, r3, r4, rz⟩ := fq2)); (have f0 := bstep (by first | with_reducible assumption | ((repeat (first | with_reducible exact Below.refl _ _ | with_reducible assumption | with_reducible refine balloc ?_ _ | with_reducible refine bdrew ?_ | with_reducible refine below_drewN ?_ _ | with_reducible refine bset ?_ ?_ _ | with_reducible exact Nat.le_refl _ | with_reducible refine bsize ?_ | (dsimp only; refine Nat.le_trans ?_ (Nat.le_add_right _ _)) | with_reducible refine Nat.le_trans ?_ (Nat.le_add_right _ _) | (with_reducible refine bstep ?_ (by assumption)))); done) : Below V.heap.size V _) hb3); (have f1 := hS1.out _ f0); go_split_ands))
    all_goals (go_wp2_with fail; go_meet)
    all_goals refine ⟨_, rfl, ?_, ?_, ?_, ?_⟩
    all_goals first | ((repeat (first | with_reducible exact Below.refl _ _ | with_reducible assumption | with_reducible refine balloc ?_ _ | with_reducible refine bdrew ?_ | with_reducible refine below_drewN ?_ _ | with_reducible refine bset ?_ ?_ _ | with_reducible exact Nat.le_refl _ | with_reducible refine bsize ?_ | (dsimp only; refine Nat.le_trans ?_ (Nat.le_add_right _ _)) | with_reducible refine Nat.le_trans ?_ (Nat.le_add_right _ _) | (with_reducible refine bstep ?_ (by assumption)))); done) | (simp [go_sem, r1, r2, r3, r4, rz]; done) | (simp [go_sem]; done) | (simp; omega)
  case rest =>
    obtain ⟨j, rfl, d1, d2, dz, hgb⟩ := hcut
    replace c1 := keepa hgb a0 c1
    replace c2 := keepa hgb a0 c2
    replace c3 := keepa hgb a0 c3
    replace c4 := keepa hgb a0 c4
    replace c5 := keepa hgb a0 c5
    replace c6 := keepa hgb a0 c6
    replace hR := hR.later hgb
    replace a0 := Nat.lt_of_lt_of_le a0 hgb.size
    have hbw2 := bstep hbw hgb
    clear hgb hbw
    go_upto_region 2 with fail
    go_cut [8, 9] (fun s8 s9 wx => ∃ g : Nat, s8 = .pointer (some ⟨g, 0, none⟩) ∧ s9 = .bool B1 ∧ wx.cell? ⟨g, 0, none⟩ = some (.int .i64 X1) ∧ wx.cell? ⟨g, 1, none⟩ = some (.int .i64 Y1) ∧ g < wx.heap.size ∧ Below wc.heap.size wc wx)
    case first =>
      have hS2 := Lib.hid (fun (W : World) (hW0 : Below wc.heap.size wc W) => (⟨hW0, keepa (W0 := wc) hW0 a0 c1, keepa (W0 := wc) hW0 a0 c2, keepa (W0 := wc) hW0 a0 c3, keepa (W0 := wc) hW0 a0 c4, keepa (W0 := wc) hW0 a0 c5, keepa (W0 := wc) hW0 a0 c6, keepa (W0 := wc) hW0 dz d1, keepa (W0 := wc) hW0 dz d2⟩ : Below wc.heap.size wc W ∧ W.cell? ⟨w.heap.size, 0, none⟩ = some (.int .i64 x) ∧ W.cell? ⟨w.heap.size, 1, none⟩ = some (.int .i64 y) ∧ W.cell? ⟨w.heap.size, 2, none⟩ = some (.int .i64 g) ∧ W.cell? ⟨w.heap.size, 3, none⟩ = some (.int .i64 h) ∧ W.cell? ⟨w.heap.size, 4, none⟩ = some (.int .i64 fr) ∧ W.cell? ⟨w.heap.size, 5, none⟩ = some (.int .i64 nx) ∧ W.cell? ⟨j, 0, none⟩ = some (.int .i64 p) ∧ W.cell? ⟨j, 1, none⟩ = some (.int .i64 q)))
      go_wp2_with (first | (go_at_call 31; refine (HA.out _).mono ?_; rintro e w3 ⟨rfl, hb3⟩; (try have fq := Res8.later (by first | with_reducible assumption | with_reducible exact Res8.drew (by with_reducible assumption) | exact Res8.newd _ _ _ _ | exact Res8.new _ _ _ _ | exact Res8.drew (Res8.newd _ _ _ _) | exact Res8.drew (Res8.new _ _ _ _)) hb3); (try (have fq2 := fq; obtain ⟨rx, ry, r1, r2, r3, r4, rz⟩ := fq2)); (have f0 := bstep (by first | with_reducible assumption | ((repeat (first | with_reducible exact Below.refl _ _ | with_reducible assumption | with_reducible refine balloc ?_ _ | with_reducible refine bdrew ?_ | with_reducible refine below_drewN ?_ _ | with_reducible refine bset ?_ ?_ _ | with_reducible exact Nat.le_refl _ | with_reducible refine bsize ?_ | (dsimp only; refine Nat.le_trans ?_ (Nat.le_add_right _ _)) | with_reducible refine Nat.le_trans ?_ (Nat.le_add_right _ _) | (with_reducible refine bstep ?_ (by assumption)))); done) : Below wc.heap.size wc _) hb3); (have f1 := hS2.out _ f0); go_split_ands))
      all_goals (go_wp2_with fail; go_meet)
      all_goals refine ⟨_, rfl, rfl, ?_, ?_, ?_, ?_⟩
      all_goals first | ((repeat (first | with_reducible exact Below.refl _ _ | with_reducible assumption | with_reducible refine balloc ?_ _ | with_reducible refine bdrew ?_ | with_reducible refine below_drewN ?_ _ | with_reducible refine bset ?_ ?_ _ | with_reducible exact Nat.le_refl _ | with_reducible refine bsize ?_ | (dsimp only; refine Nat.le_trans ?_ (Nat.le_add_right _ _)) | with_reducible refine Nat.le_trans ?_ (Nat.le_add_right _ _) | (with_reducible refine bstep ?_ (by assumption)))); done) | (simp [go_sem, r1, r2, r3, r4, rz]; done) | (simp [go_sem]; done) | (simp; omega)
    case rest =>
      obtain ⟨k, rfl, rfl, e1, e2, ez, hgb⟩ := hcut
      replace c1 := keepa hgb a0 c1
      replace c2 := keepa hgb a0 c2
      replace c3 := keepa hgb a0 c3
      replace c4 := keepa hgb a0 c4
      replace c5 := keepa hgb a0 c5
      replace c6 := keepa hgb a0 c6
      replace d1 := keepa hgb dz d1
      replace d2 := keepa hgb dz d2
      replace hR := hR.later hgb
      replace a0 := Nat.lt_of_lt_of_le a0 hgb.size
      replace dz := Nat.lt_of_lt_of_le dz hgb.size
      have hbw := bstep hbw2 hgb
      clear hgb hbw2
      rename World => wd
      go_upto_region 3 with fail
      go_cut [10, 11] (fun s10 s11 wx => ∃ g : Nat, s10 = .pointer (some ⟨g, 0, none⟩) ∧ s11 = .bool B2 ∧ wx.cell? ⟨g, 0, none⟩ = some (.int .i64 X2) ∧ wx.cell? ⟨g, 1, none⟩ = some (.int .i64 Y2) ∧ g < wx.heap.size ∧ Below wd.heap.size wd wx)
      case first =>
        have hS3 := Lib.hid (fun (W : World) (hW0 : Below wd.heap.size wd W) => (⟨hW0, keepa (W0 := wd) hW0 a0 c1, keepa (W0 := wd) hW0 a0 c2, keepa (W0 := wd) hW0 a0 c3, keepa (W0 := wd) hW0 a0 c4, keepa (W0 := wd) hW0 a0 c5, keepa (W0 := wd) hW0 a0 c6, keepa (W0 := wd) hW0 dz d1, keepa (W0 := wd) hW0 dz d2, keepa (W0 := wd) hW0 ez e1, keepa (W0 := wd) hW0 ez e2⟩ : Below wd.heap.size wd W ∧ W.cell? ⟨w.heap.size, 0, none⟩ = some (.int .i64 x) ∧ W.cell? ⟨w.heap.size, 1, none⟩ = some (.int .i64 y) ∧ W.cell? ⟨w.heap.size, 2, none⟩ = some (.int .i64 g) ∧ W.cell? ⟨w.heap.size, 3, none⟩ = some (.int .i64 h) ∧ W.cell? ⟨w.heap.size, 4, none⟩ = some (.int .i64 fr) ∧ W.cell? ⟨w.heap.size, 5, none⟩ = some (.int .i64 nx) ∧ W.cell? ⟨j, 0, none⟩ = some (.int .i64 p) ∧ W.cell? ⟨j, 1, none⟩ = some (.int .i64 q) ∧ W.cell? ⟨k, 0, none⟩ = some (.int .i64 X1) ∧ W.cell? ⟨k, 1, none⟩ = some (.int .i64 Y1)))
        go_region_held3 (fun W => Below wd.heap.size wd W ∧ W.cell? ⟨w.heap.size, 0, none⟩ = some (.int .i64 x) ∧ W.cell? ⟨w.heap.size, 1, none⟩ = some (.int .i64 y) ∧ W.cell? ⟨w.heap.size, 2, none⟩ = some (.int .i64 g) ∧ W.cell? ⟨w.heap.size, 3, none⟩ = some (.int .i64 h) ∧ W.cell? ⟨w.heap.size, 4, none⟩ = some (.int .i64 fr) ∧ W.cell? ⟨w.heap.size, 5, none⟩ = some (.int .i64 nx) ∧ W.cell? ⟨j, 0, none⟩ = some (.int .i64 p) ∧ W.cell? ⟨j, 1, none⟩ = some (.int .i64 q) ∧ W.cell? ⟨k, 0, none⟩ = some (.int .i64 X1) ∧ W.cell? ⟨k, 1, none⟩ = some (.int .i64 Y1)) ((refine hS3.out _ ?_; first | with_reducible assumption | ((repeat (first | with_reducible exact Below.refl _ _ | with_reducible assumption | with_reducible refine balloc ?_ _ | with_reducible refine bdrew ?_ | with_reducible refine below_drewN ?_ _ | with_reducible refine bset ?_ ?_ _ | with_reducible exact Nat.le_refl _ | with_reducible refine bsize ?_ | (dsimp only; refine Nat.le_trans ?_ (Nat.le_add_right _ _)) | with_reducible refine Nat.le_trans ?_ (Nat.le_add_right _ _) | (with_reducible refine bstep ?_ (by assumption)))); done))) (first | (go_at_call 19; refine (HWb.out _).mono ?_; rintro e w3 ⟨rfl, hb3⟩; (try have fq := Res8.later (by first | with_reducible assumption | with_reducible exact Res8.drew (by with_reducible assumption) | exact Res8.newd _ _ _ _ | exact Res8.new _ _ _ _ | exact Res8.drew (Res8.newd _ _ _ _) | exact Res8.drew (Res8.new _ _ _ _)) hb3); (try (have fq2 := fq; obtain ⟨rx, ry, r1, r2, r3, r4, rz⟩ := fq2)); (have f0 := bstep (by first | with_reducible assumption | ((repeat (first | with_reducible exact Below.refl _ _ | with_reducible assumption | with_reducible refine balloc ?_ _ | with_reducible refine bdrew ?_ | with_reducible refine below_drewN ?_ _ | with_reducible refine bset ?_ ?_ _ | with_reducible exact Nat.le_refl _ | with_reducible refine bsize ?_ | (dsimp only; refine Nat.le_trans ?_ (Nat.le_add_right _ _)) | with_reducible refine Nat.le_trans ?_ (Nat.le_add_right _ _) | (with_reducible refine bstep ?_ (by assumption)))); done) : Below wd.heap.size wd _) hb3); (have f1 := hS3.out _ f0); go_split_ands) | (go_at_call 32; refine (HT.out _).mono ?_; rintro e w3 ⟨rfl, hb3⟩; (try have fq := Res8.later (by first | with_reducible assumption | with_reducible exact Res8.drew (by with_reducible assumption) | exact Res8.newd _ _ _ _ | exact Res8.new _ _ _ _ | exact Res8.drew (Res8.newd _ _ _ _) | exact Res8.drew (Res8.new _ _ _ _)) hb3); (try (have fq2 := fq; obtain ⟨rx, ry, r1, r2, r3, r4, rz⟩ := fq2)); (have f0 := bstep (by first | with_reducible assumption | ((repeat (first | with_reducible exact Below.refl _ _ | with_reducible assumption | with_reducible refine balloc ?_ _ | with_reducible refine bdrew ?_ | with_reducible refine below_drewN ?_ _ | with_reducible refine bset ?_ ?_ _ | with_reducible exact Nat.le_refl _ | with_reducible refine bsize ?_ | (dsimp only; refine Nat.le_trans ?_ (Nat.le_add_right _ _)) | with_reducible refine Nat.le_trans ?_ (Nat.le_add_right _ _) | (with_reducible refine bstep ?_ (by assumption)))); done) : Below wd.heap.size wd _) hb3); (have f1 := hS3.out _ f0); go_split_ands))
        all_goals (go_wp2_with fail; go_meet)
        all_goals refine ⟨_, rfl, rfl, ?_, ?_, ?_, ?_⟩
        all_goals first | ((repeat (first | with_reducible exact Below.refl _ _ | with_reducible assumption | with_reducible refine balloc ?_ _ | with_reducible refine bdrew ?_ | with_reducible refine below_drewN ?_ _ | with_reducible refine bset ?_ ?_ _ | with_reducible exact Nat.le_refl _ | with_reducible refine bsize ?_ | (dsimp only; refine Nat.le_trans ?_ (Nat.le_add_right _ _)) | with_reducible refine Nat.le_trans ?_ (Nat.le_add_right _ _) | (with_reducible refine bstep ?_ (by assumption)))); done) | (simp [go_sem, r1, r2, r3, r4, rz]; done) | (simp [go_sem]; done) | (simp; omega)
      case rest =>
        obtain ⟨m, rfl, rfl, m1, m2, mz, hgb⟩ := hcut
        replace c1 := keepa hgb a0 c1
        replace c2 := keepa hgb a0 c2
        replace c3 := keepa hgb a0 c3
        replace c4 := keepa hgb a0 c4
        replace c5 := keepa hgb a0 c5
        replace c6 := keepa hgb a0 c6
        replace d1 := keepa hgb dz d1
        replace d2 := keepa hgb dz d2
        replace e1 := keepa hgb ez e1
        replace e2 := keepa hgb ez e2
        replace hR := hR.later hgb
        replace a0 := Nat.lt_of_lt_of_le a0 hgb.size
        replace dz := Nat.lt_of_lt_of_le dz hgb.size
        replace ez := Nat.lt_of_lt_of_le ez hgb.size
        have hbw2 := bstep hbw hgb
        clear hgb hbw
        obtain ⟨u0, t0, v0⟩ := hR.1 0 (by omega)
        obtain ⟨u1, t1, v1⟩ := hR.1 1 (by omega)
        obtain ⟨u2, t2, v2⟩ := hR.1 2 (by omega)
        obtain ⟨u3, t3, v3⟩ := hR.1 3 (by omega)
        obtain ⟨u4, t4, v4⟩ := hR.1 4 (by omega)
        obtain ⟨u5, t5, v5⟩ := hR.1 5 (by omega)
        have tz := hR.2
        clear hR
        cases B1
        · go_wp2
          refine bodyPost_ret (v := .tuple #[.agg #[.int .i64 X1, .int .i64 Y1, .int .i64 X2, .int .i64 Y2, .int .i64 nx, .int .i64 fr], .bool false]) (by simp only [results, Try.results20]; go_simp) rfl ?_
          refine ⟨⟨X1, Y1, X2, Y2, congrArg (fun b => Ending.returned (.tuple #[.agg #[.int .i64 X1, .int .i64 Y1, .int .i64 X2, .int .i64 Y2, .int .i64 nx, .int .i64 fr], .bool b])) hv.out.1, hv.out.2⟩, ?_⟩
          (repeat (first | with_reducible exact Below.refl _ _ | with_reducible assumption | with_reducible refine balloc ?_ _ | with_reducible refine bdrew ?_ | with_reducible refine below_drewN ?_ _ | with_reducible refine bset ?_ ?_ _ | with_reducible exact Nat.le_refl _ | with_reducible refine bsize ?_ | (dsimp only; refine Nat.le_trans ?_ (Nat.le_add_right _ _)) | with_reducible refine Nat.le_trans ?_ (Nat.le_add_right _ _) | (with_reducible refine bstep ?_ (by assumption))))
        · go_wp2
          refine bodyPost_ret (v := .tuple #[.agg #[.int .i64 X1, .int .i64 Y1, .int .i64 X2, .int .i64 Y2, .int .i64 nx, .int .i64 fr], .bool B2]) (by simp only [results, Try.results20]; go_simp) rfl ?_
          refine ⟨⟨X1, Y1, X2, Y2, congrArg (fun b => Ending.returned (.tuple #[.agg #[.int .i64 X1, .int .i64 Y1, .int .i64 X2, .int .i64 Y2, .int .i64 nx, .int .i64 fr], .bool b])) hv.out.1, hv.out.2⟩, ?_⟩
          (repeat (first | with_reducible exact Below.refl _ _ | with_reducible assumption | with_reducible refine balloc ?_ _ | with_reducible refine bdrew ?_ | with_reducible refine below_drewN ?_ _ | with_reducible refine bset ?_ ?_ _ | with_reducible exact Nat.le_refl _ | with_reducible refine bsize ?_ | (dsimp only; refine Nat.le_trans ?_ (Nat.le_add_right _ _)) | with_reducible refine Nat.le_trans ?_ (Nat.le_add_right _ _) | (with_reducible refine bstep ?_ (by assumption))))
end Go.Proofs.Ytbaaaaceejgofaa
