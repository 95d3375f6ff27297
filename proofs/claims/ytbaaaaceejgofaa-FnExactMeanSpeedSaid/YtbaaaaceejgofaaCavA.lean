/- Lists of whole numbers that are only read: are all ways (1..1000); their sum (the program). -/
import Derived.Test.YtbaaaaceejgofaaOInt
import Derived.Test.YtbaaaaceejgofaaRowG
import Derived.Test.YtbaaaaceejgofaaMake
namespace Go.Proofs.Ytbaaaaceejgofaa
open Go.ChangeShapes Go.WideShapes Go.ChangeAt Go.RowKit Go.Joins
set_option maxRecDepth 100000
set_option linter.unusedVariables false
set_option linter.unusedSimpArgs false

def trP (x : Int) : Bool := inB x 1 1000
theorem trP_yes {x : Int} (h : trP x = true) : 1 ≤ x ∧ x ≤ 1000 := by simpa [trP, inB] using h
theorem trP_no {x : Int} (h : trP x = false) : ¬ (1 ≤ x ∧ x ≤ 1000) := by simpa [trP, inB] using h
/-- A slice that begins at the start of a block. -/
theorem rowI {W : World} {g cap : Nat} {l : List Int} (hlc : l.length ≤ cap) (hcap : cap ≤ 9223372036854775807)
    (hc : ∀ (i : Nat) (x : Int), l[i]? = some x → W.cell? ⟨g, i, none⟩ = some (.int .i64 x)) (hb : ∀ x ∈ l, -9223372036854775808 ≤ x ∧ x ≤ 9223372036854775807) :
    RowG 1 fInt W (.slice (some ⟨g, 0, none⟩) l.length cap) l := by
  refine Or.inr ⟨_, cap, rfl, hlc, hcap, fun i p hp j y hy => ?_, fun p hp y hy => ?_⟩
  · have hj : j = 0 := by
      have := (List.getElem?_eq_some_iff.1 hy).1
      simp [fInt] at this; omega
    subst hj
    simp [fInt] at hy
    subst hy
    have e : (⟨g, 0, none⟩ : Addr).add (i * 1 + 0) = ⟨g, i, none⟩ := by unfold Addr.add; split <;> simp_all
    rw [e]; exact hc i _ hp
  · simp [fInt] at hy; subst hy; exact hb _ hp
theorem rowI1 {W : World} {g : Nat} {x : Int} (h0 : W.cell? ⟨g, 0, none⟩ = some (.int .i64 x)) (b0 : -9223372036854775808 ≤ x ∧ x ≤ 9223372036854775807) :
    RowG 1 fInt W (.slice (some ⟨g, 0, none⟩) 1 1) [x] :=
  rowI (l := [x]) (by simp) (by omega) (fun i y h => by rcases i with _ | i <;> simp at h; subst h; exact h0) (by simpa using b0)
theorem rowI2 {W : World} {g : Nat} {x y : Int} (h0 : W.cell? ⟨g, 0, none⟩ = some (.int .i64 x)) (h1 : W.cell? ⟨g, 1, none⟩ = some (.int .i64 y))
    (b0 : -9223372036854775808 ≤ x ∧ x ≤ 9223372036854775807) (b1 : -9223372036854775808 ≤ y ∧ y ≤ 9223372036854775807) :
    RowG 1 fInt W (.slice (some ⟨g, 0, none⟩) 2 2) [x, y] :=
  rowI (l := [x, y]) (by simp) (by omega) (fun i z h => by rcases i with _ | _ | i <;> simp at h <;> subst h <;> assumption) (by intro z hz; simp at hz; rcases hz with rfl | rfl <;> assumption)
theorem rowI3 {W : World} {g : Nat} {x y z : Int} (h0 : W.cell? ⟨g, 0, none⟩ = some (.int .i64 x)) (h1 : W.cell? ⟨g, 1, none⟩ = some (.int .i64 y)) (h2 : W.cell? ⟨g, 2, none⟩ = some (.int .i64 z))
    (b0 : -9223372036854775808 ≤ x ∧ x ≤ 9223372036854775807) (b1 : -9223372036854775808 ≤ y ∧ y ≤ 9223372036854775807) (b2 : -9223372036854775808 ≤ z ∧ z ≤ 9223372036854775807) :
    RowG 1 fInt W (.slice (some ⟨g, 0, none⟩) 3 3) [x, y, z] :=
  rowI (l := [x, y, z]) (by simp) (by omega) (fun i z h => by rcases i with _ | _ | _ | i <;> simp at h <;> subst h <;> assumption) (by intro z hz; simp at hz; rcases hz with rfl | rfl | rfl <;> assumption)
theorem rowI4 {W : World} {g : Nat} {x y z u : Int} (h0 : W.cell? ⟨g, 0, none⟩ = some (.int .i64 x)) (h1 : W.cell? ⟨g, 1, none⟩ = some (.int .i64 y)) (h2 : W.cell? ⟨g, 2, none⟩ = some (.int .i64 z)) (h3 : W.cell? ⟨g, 3, none⟩ = some (.int .i64 u))
    (b0 : -9223372036854775808 ≤ x ∧ x ≤ 9223372036854775807) (b1 : -9223372036854775808 ≤ y ∧ y ≤ 9223372036854775807) (b2 : -9223372036854775808 ≤ z ∧ z ≤ 9223372036854775807) (b3 : -9223372036854775808 ≤ u ∧ u ≤ 9223372036854775807) :
    RowG 1 fInt W (.slice (some ⟨g, 0, none⟩) 4 4) [x, y, z, u] :=
  rowI (l := [x, y, z, u]) (by simp) (by omega) (fun i z h => by rcases i with _ | _ | _ | _ | i <;> simp at h <;> subst h <;> assumption) (by intro z hz; simp at hz; rcases hz with rfl | rfl | rfl | rfl <;> assumption)
/-- The cells of a list of whole numbers. -/
theorem cellI {w : World} {a : Addr} {cap : Nat} {l : List Int} (h : LiesG 1 fInt w a cap l) {k : Nat} {x : Int} (hp : l[k]? = some x) : w.cell? (a.add k) = some (.int .i64 x) := by
  have := h.hcell k x hp 0 x rfl
  rwa [Nat.mul_one, Nat.add_zero] at this

theorem tr_clo (x : Int) (w : World) :
    Calls Try.prog 30 #[.int .i64 x] w fun e w' => e = .returned (.bool (!trP x)) ∧ Below w.heap.size w w' := by
  have HP := Lib.hid (fun W => in_impl x 1 1000 W)
  have e : inB x 1 1000 = trP x := rfl
  rw [e] at HP
  generalize trP x = B at *
  go_enter Try.func30, Try.ntmps30
  go_wp2_with fail
  refine (HP.out _).mono ?_
  rintro e w1 ⟨rfl, rfl⟩
  go_wp2
  go_ret
  refine ⟨rfl, ?_⟩
  (repeat (first | with_reducible exact Below.refl _ _ | with_reducible assumption | with_reducible refine balloc ?_ _ | with_reducible refine bdrew ?_ | with_reducible refine below_drewN ?_ _ | with_reducible refine bset ?_ ?_ _ | with_reducible exact Nat.le_refl _ | with_reducible refine bsize ?_ | (dsimp only; refine Nat.le_trans ?_ (Nat.le_add_right _ _)) | with_reducible refine Nat.le_trans ?_ (Nat.le_add_right _ _) | (with_reducible refine bstep ?_ (by assumption))))
set_option maxHeartbeats 800000 in
theorem tr_ix (a : Addr) (cap : Nat) (l : List Int) (w : World) (hL : LiesG 1 fInt w a cap l) :
    Calls Try.prog 37 #[.slice (some a) l.length cap, .func (.func 30) #[] #[]] w fun e w' => ∃ i : Int, e = .returned (.int .i64 i) ∧ Hid (decide (0 ≤ i) = !l.all trP) ∧ Below w.heap.size w w' := by
  have hlc := hL.hlc
  have hcap := hL.hcap
  go_enter Try.func37, Try.ntmps37
  go_wp2
  go_loopw [8] (fun i wr => ∃ k : Nat, k ≤ l.length ∧ i = .int .i64 k ∧ Hid (∀ j p, j < k → l[j]? = some p → trP p = true) ∧ Below w.heap.size w wr) (fun i _ => l.length - (intOf i).toNat)
  case atStart => exact ⟨0, Nat.zero_le _, rfl, Lib.hid (fun j p h _ => absurd h (by omega)), Below.refl _ _⟩
  case round =>
    obtain ⟨k, hk, rfl, hall, hbel⟩ := hrel
    by_cases hlt : k < l.length
    · obtain ⟨p, hp⟩ : ∃ p, l[k]? = some p := ⟨_, List.getElem?_eq_getElem hlt⟩
      have hL2 := liesG_below hL hbel
      have e0 := cellI hL2 hp
      have HC := Lib.hid (fun W => tr_clo p W)
      cases hP : trP p
      · have hno : Hid (l.all trP = false) := by
          rw [Bool.eq_false_iff]
          intro h
          have := (List.all_eq_true.1 h) p (List.mem_of_getElem? hp)
          rw [hP] at this
          cases this
        rw [hP] at HC
        have HP2 := Lib.hid hP
        clear hL2 hP hall
        go_wp2_with fail
        refine (HC.out _).mono ?_
        rintro e w2 ⟨rfl, hb2⟩
        go_wp2
        go_ret
        refine ⟨_, rfl, ?_, ?_⟩
        · have hno := hno.out
          exact Lib.hid (by rw [hno]; simp)
        · (repeat (first | with_reducible exact Below.refl _ _ | with_reducible assumption | with_reducible refine balloc ?_ _ | with_reducible refine bdrew ?_ | with_reducible refine below_drewN ?_ _ | with_reducible refine bset ?_ ?_ _ | with_reducible exact Nat.le_refl _ | with_reducible refine bsize ?_ | (dsimp only; refine Nat.le_trans ?_ (Nat.le_add_right _ _)) | with_reducible refine Nat.le_trans ?_ (Nat.le_add_right _ _) | (with_reducible refine bstep ?_ (by assumption))))
      · have hnext : Hid (∀ j p, j < k + 1 → l[j]? = some p → trP p = true) := by
          have h := hall.out
          refine Lib.hid (fun j q hj hq => ?_)
          by_cases e : j = k
          · subst e
            rw [hp] at hq
            injection hq with hq
            subst hq
            exact hP
          · exact h j q (by omega) hq
        rw [hP] at HC
        clear hL2 hP hall
        go_wp2_with fail
        refine (HC.out _).mono ?_
        rintro e w2 ⟨rfl, hb2⟩
        go_wp2
        go_roundw
        case rel => exact ⟨k + 1, by omega, by go_num, hnext, by (repeat (first | with_reducible exact Below.refl _ _ | with_reducible assumption | with_reducible refine balloc ?_ _ | with_reducible refine bdrew ?_ | with_reducible refine below_drewN ?_ _ | with_reducible refine bset ?_ ?_ _ | with_reducible exact Nat.le_refl _ | with_reducible refine bsize ?_ | (dsimp only; refine Nat.le_trans ?_ (Nat.le_add_right _ _)) | with_reducible refine Nat.le_trans ?_ (Nat.le_add_right _ _) | (with_reducible refine bstep ?_ (by assumption))))⟩
        case measure => simp [intOf]; omega
    · have hkl : k = l.length := by omega
      have hyes : Hid (l.all trP = true) := by
        have h := hall.out
        refine Lib.hid (List.all_eq_true.2 fun p hp => ?_)
        obtain ⟨j, hj, hjp⟩ := List.mem_iff_getElem.1 hp
        exact h j p (by omega) (by rw [List.getElem?_eq_getElem hj, hjp])
      clear hall
      go_wp2
      go_ret
      refine ⟨_, rfl, ?_, hbel⟩
      have hyes := hyes.out
      exact Lib.hid (by rw [hyes]; simp)
theorem tr_ix_nil (w : World) :
    Calls Try.prog 37 #[.slice none 0 0, .func (.func 30) #[] #[]] w fun e w' => ∃ i : Int, e = .returned (.int .i64 i) ∧ Hid (decide (0 ≤ i) = !([] : List Int).all trP) ∧ Below w.heap.size w w' := by
  go_enter Try.func37, Try.ntmps37
  go_wp2
  go_loopw [8] (fun i wr => i = .int .i64 0 ∧ wr = w) (fun _ _ => 0)
  case atStart => exact ⟨rfl, rfl⟩
  case round =>
    obtain ⟨rfl, rfl⟩ := hrel
    go_wp2
    go_ret
    exact ⟨_, rfl, Lib.hid (by simp), Below.refl _ _⟩
theorem tr_has (v : Value) (l : List Int) (w : World) (h : RowG 1 fInt w v l) :
    Calls Try.prog 29 #[v, .func (.func 30) #[] #[]] w fun e w' => e = .returned (.bool (!l.all trP)) ∧ Below w.heap.size w w' := by
  have HI : Hid (∀ W, Below w.heap.size w W → Calls Try.prog 37 #[v, .func (.func 30) #[] #[]] W fun e w' => ∃ i : Int, e = .returned (.int .i64 i) ∧ Hid (decide (0 ≤ i) = !l.all trP) ∧ Below W.heap.size W w') := by
    refine Lib.hid (fun W hb => ?_)
    rcases h with ⟨rfl, rfl⟩ | ⟨a, cap, rfl, hL⟩
    · exact tr_ix_nil W
    · exact tr_ix a cap l W (liesG_below hL hb)
  have hsh : ∃ a n c, v = .slice a n c := by
    rcases h with ⟨rfl, _⟩ | ⟨a, cap, rfl, _⟩ <;> exact ⟨_, _, _, rfl⟩
  obtain ⟨a, n, c, rfl⟩ := hsh
  clear h
  generalize l.all trP = B at *
  go_enter Try.func29, Try.ntmps29
  go_wp2_with fail
  refine (HI.out _ (by (repeat (first | with_reducible exact Below.refl _ _ | with_reducible assumption | with_reducible refine balloc ?_ _ | with_reducible refine bdrew ?_ | with_reducible refine below_drewN ?_ _ | with_reducible refine bset ?_ ?_ _ | with_reducible exact Nat.le_refl _ | with_reducible refine bsize ?_ | (dsimp only; refine Nat.le_trans ?_ (Nat.le_add_right _ _)) | with_reducible refine Nat.le_trans ?_ (Nat.le_add_right _ _) | (with_reducible refine bstep ?_ (by assumption)))))).mono ?_
  rintro e w1 ⟨i, rfl, hi, hb1⟩
  by_cases h0 : 0 ≤ i
  all_goals
    have hB := hi.out
    simp only [h0, decide_true, decide_false] at hB
    replace hB := Lib.hid hB
    clear hi
    go_wp2
    go_ret
    refine ⟨by rw [← hB.out]; first | rfl | simp [h0], ?_⟩
    (repeat (first | with_reducible exact Below.refl _ _ | with_reducible assumption | with_reducible refine balloc ?_ _ | with_reducible refine bdrew ?_ | with_reducible refine below_drewN ?_ _ | with_reducible refine bset ?_ ?_ _ | with_reducible exact Nat.le_refl _ | with_reducible refine bsize ?_ | (dsimp only; refine Nat.le_trans ?_ (Nat.le_add_right _ _)) | with_reducible refine Nat.le_trans ?_ (Nat.le_add_right _ _) | (with_reducible refine bstep ?_ (by assumption))))
theorem tr_is (v : Value) (l : List Int) (w : World) (h : RowG 1 fInt w v l) :
    Calls Try.prog 17 #[v] w fun e w' => e = .returned (.bool (l.all trP)) ∧ Below w.heap.size w w' := by
  have HC := Lib.hid (fun W (hb : Below w.heap.size w W) => tr_has v l W (by
    rcases h with ⟨rfl, rfl⟩ | ⟨a, cap, rfl, hL⟩
    · exact Or.inl ⟨rfl, rfl⟩
    · exact Or.inr ⟨a, cap, rfl, liesG_below hL hb⟩))
  have hsh : ∃ a n c, v = .slice a n c := by
    rcases h with ⟨rfl, _⟩ | ⟨a, cap, rfl, _⟩ <;> exact ⟨_, _, _, rfl⟩
  obtain ⟨a, n, c, rfl⟩ := hsh
  clear h
  generalize l.all trP = B at *
  go_enter Try.func17, Try.ntmps17
  go_wp2_with fail
  refine (HC.out _ (by (repeat (first | with_reducible exact Below.refl _ _ | with_reducible assumption | with_reducible refine balloc ?_ _ | with_reducible refine bdrew ?_ | with_reducible refine below_drewN ?_ _ | with_reducible refine bset ?_ ?_ _ | with_reducible exact Nat.le_refl _ | with_reducible refine bsize ?_ | (dsimp only; refine Nat.le_trans ?_ (Nat.le_add_right _ _)) | with_reducible refine Nat.le_trans ?_ (Nat.le_add_right _ _) | (with_reducible refine bstep ?_ (by assumption)))))).mono ?_
  rintro e w1 ⟨rfl, hb1⟩
  go_wp2
  go_ret
  refine ⟨by simp, ?_⟩
  (repeat (first | with_reducible exact Below.refl _ _ | with_reducible assumption | with_reducible refine balloc ?_ _ | with_reducible refine bdrew ?_ | with_reducible refine below_drewN ?_ _ | with_reducible refine bset ?_ ?_ _ | with_reducible exact Nat.le_refl _ | with_reducible refine bsize ?_ | (dsimp only; refine Nat.le_trans ?_ (Nat.le_add_right _ _)) | with_reducible refine Nat.le_trans ?_ (Nat.le_add_right _ _) | (with_reducible refine bstep ?_ (by assumption))))
theorem tr1 (x : Int) (b0 : -9223372036854775808 ≤ x ∧ x ≤ 9223372036854775807) (g : Nat) (w : World) (h0 : w.cell? ⟨g, 0, none⟩ = some (.int .i64 x)) :
    Calls Try.prog 17 #[.slice (some ⟨g, 0, none⟩) 1 1] w fun e w' => e = .returned (.bool (trP x)) ∧ Below w.heap.size w w' :=
  (tr_is _ _ w (rowI1 h0 b0)).mono (by rintro e w' ⟨rfl, h⟩; exact ⟨by simp, h⟩)
theorem tr2 (x y : Int) (b0 : -9223372036854775808 ≤ x ∧ x ≤ 9223372036854775807) (b1 : -9223372036854775808 ≤ y ∧ y ≤ 9223372036854775807) (g : Nat) (w : World) (h0 : w.cell? ⟨g, 0, none⟩ = some (.int .i64 x)) (h1 : w.cell? ⟨g, 1, none⟩ = some (.int .i64 y)) :
    Calls Try.prog 17 #[.slice (some ⟨g, 0, none⟩) 2 2] w fun e w' => e = .returned (.bool (trP x && trP y)) ∧ Below w.heap.size w w' :=
  (tr_is _ _ w (rowI2 h0 h1 b0 b1)).mono (by rintro e w' ⟨rfl, h⟩; exact ⟨by simp, h⟩)
theorem tr3 (x y z : Int) (b0 : -9223372036854775808 ≤ x ∧ x ≤ 9223372036854775807) (b1 : -9223372036854775808 ≤ y ∧ y ≤ 9223372036854775807) (b2 : -9223372036854775808 ≤ z ∧ z ≤ 9223372036854775807) (g : Nat) (w : World) (h0 : w.cell? ⟨g, 0, none⟩ = some (.int .i64 x)) (h1 : w.cell? ⟨g, 1, none⟩ = some (.int .i64 y)) (h2 : w.cell? ⟨g, 2, none⟩ = some (.int .i64 z)) :
    Calls Try.prog 17 #[.slice (some ⟨g, 0, none⟩) 3 3] w fun e w' => e = .returned (.bool (trP x && trP y && trP z)) ∧ Below w.heap.size w w' :=
  (tr_is _ _ w (rowI3 h0 h1 h2 b0 b1 b2)).mono (by rintro e w' ⟨rfl, h⟩; exact ⟨by simp [Bool.and_assoc], h⟩)
theorem tr4 (x y z u : Int) (b0 : -9223372036854775808 ≤ x ∧ x ≤ 9223372036854775807) (b1 : -9223372036854775808 ≤ y ∧ y ≤ 9223372036854775807) (b2 : -9223372036854775808 ≤ z ∧ z ≤ 9223372036854775807) (b3 : -9223372036854775808 ≤ u ∧ u ≤ 9223372036854775807) (g : Nat) (w : World) (h0 : w.cell? ⟨g, 0, none⟩ = some (.int .i64 x)) (h1 : w.cell? ⟨g, 1, none⟩ = some (.int .i64 y)) (h2 : w.cell? ⟨g, 2, none⟩ = some (.int .i64 z)) (h3 : w.cell? ⟨g, 3, none⟩ = some (.int .i64 u)) :
    Calls Try.prog 17 #[.slice (some ⟨g, 0, none⟩) 4 4] w fun e w' => e = .returned (.bool (trP x && trP y && trP z && trP u)) ∧ Below w.heap.size w w' :=
  (tr_is _ _ w (rowI4 h0 h1 h2 h3 b0 b1 b2 b3)).mono (by rintro e w' ⟨rfl, h⟩; exact ⟨by simp [Bool.and_assoc], h⟩)
theorem one_spec (x : Int) (w : World) :
    Calls Try.prog 12 #[.int .i64 x] w fun e w' => e = .returned (.bool (trP x)) ∧ w = w' := by
  have HP := Lib.hid (fun W => in_spec x 1 1000 W)
  have e : inB x 1 1000 = trP x := rfl
  rw [e] at HP
  generalize trP x = B at *
  go_enter Try.func12, Try.ntmps12
  go_wp2_with fail
  refine (HP.out _).mono ?_
  rintro e w1 ⟨rfl, rfl⟩
  go_wp2
  go_ret
  exact ⟨rfl, rfl⟩

/-- The sum of a list, one after the other. -/
def upTo (l : List Int) : Nat → Int
  | 0 => 0
  | k + 1 => upTo l k + (l[k]?).getD 0
theorem upTo_bd (l : List Int) (M : Int) (hM : 0 ≤ M) (h : ∀ x ∈ l, 0 ≤ x ∧ x ≤ M) : ∀ k : Nat, 0 ≤ upTo l k ∧ upTo l k ≤ k * M
  | 0 => by simp [upTo]
  | k + 1 => by
    have ih := upTo_bd l M hM h k
    have hx : 0 ≤ (l[k]?).getD 0 ∧ (l[k]?).getD 0 ≤ M := by
      cases hk : l[k]? with
      | none => simpa using hM
      | some x => exact h x (List.mem_of_getElem? hk)
    have e : ((k + 1 : Nat) : Int) * M = k * M + M := by rw [Int.natCast_add, Int.add_mul]; simp
    rw [e]
    simp only [upTo]
    omega
set_option maxHeartbeats 800000 in
theorem sum_some (a : Addr) (cap : Nat) (l : List Int) (w : World) (hL : LiesG 1 fInt w a cap l) (hlen : l.length ≤ 100) (hb : ∀ x ∈ l, 0 ≤ x ∧ x ≤ 1000000000000) :
    Calls Try.prog 26 #[.slice (some a) l.length cap] w fun e w' => e = .returned (.int .i64 (upTo l l.length)) ∧ w = w' := by
  have hlc := hL.hlc
  have hcap := hL.hcap
  have hU := Lib.hid (upTo_bd l 1000000000000 (by omega) hb)
  have hall := Lib.hid hb
  have hstep : Hid (∀ k, upTo l (k + 1) = upTo l k + (l[k]?).getD 0) := Lib.hid (fun k => rfl)
  have hat : ∃ f : Nat → Int, f = upTo l := ⟨_, rfl⟩
  obtain ⟨f, hf⟩ := hat
  rw [← hf] at hU hstep ⊢
  have h00 : f 0 = 0 := by rw [hf]; rfl
  clear hf hb
  go_enter Try.func26, Try.ntmps26
  go_wp2
  go_loopw [3, 8] (fun s i wr => ∃ k : Nat, k ≤ l.length ∧ i = .int .i64 k ∧ s = .int .i64 (f k) ∧ w = wr) (fun _ i _ => l.length - (intOf i).toNat)
  case atStart => exact ⟨0, Nat.zero_le _, rfl, by rw [h00], rfl⟩
  case round =>
    obtain ⟨k, hk, rfl, rfl, rfl⟩ := hrel
    by_cases hlt : k < l.length
    · obtain ⟨p, hp⟩ : ∃ p, l[k]? = some p := ⟨_, List.getElem?_eq_getElem hlt⟩
      have e0 := cellI hL hp
      have hpb := hall.out p (List.mem_of_getElem? hp)
      have hfk := hU.out k
      have hs := hstep.out k
      rw [hp] at hs
      replace hs : f (k + 1) = f k + p := hs
      have hs2 := Lib.hid hs
      clear hs h00 hL
      have hk100 : (k : Int) * 1000000000000 ≤ 100 * 1000000000000 := Int.mul_le_mul_of_nonneg_right (by omega) (by omega)
      have hf0 : f k ≤ 100000000000000 := by omega
      clear hk100
      have hf1 := hfk.1
      clear hfk
      go_wp2
      go_roundw
      case rel => exact ⟨k + 1, by omega, by go_num, by rw [hs2.out], trivial⟩
      case measure => simp [intOf]; omega
    · have hkl : k = l.length := by omega
      subst hkl
      go_wp2
      go_ret
      exact ⟨rfl, rfl⟩
theorem sum_nil (w : World) :
    Calls Try.prog 26 #[.slice none 0 0] w fun e w' => e = .returned (.int .i64 0) ∧ w = w' := by
  go_enter Try.func26, Try.ntmps26
  go_wp2
  go_loopw [3, 8] (fun s i wr => s = .int .i64 0 ∧ i = .int .i64 0 ∧ w = wr) (fun _ _ _ => 0)
  case atStart => exact ⟨rfl, rfl, rfl⟩
  case round =>
    obtain ⟨rfl, rfl, rfl⟩ := hrel
    go_wp2
    go_ret
    exact ⟨rfl, rfl⟩
theorem sum_is (v : Value) (l : List Int) (w : World) (h : RowG 1 fInt w v l) (hlen : l.length ≤ 100) (hb : ∀ x ∈ l, 0 ≤ x ∧ x ≤ 1000000000000) :
    Calls Try.prog 26 #[v] w fun e w' => e = .returned (.int .i64 (upTo l l.length)) ∧ w = w' := by
  rcases h with ⟨rfl, rfl⟩ | ⟨a, cap, rfl, hL⟩
  · exact sum_nil w
  · exact sum_some a cap l w hL hlen hb
set_option maxHeartbeats 800000 in
/-- The time for some ways. -/
theorem tf_is (s : Int) (bs : s ≤ 9223372036854775807) (v : Value) (l : List Int) (w : World) (h : RowG 1 fInt w v l) (hlen : l.length ≤ 100) (hb : ∀ x ∈ l, 0 ≤ x ∧ x ≤ 1000000000000) :
    Calls Try.prog 23 #[.int .i64 s, v] w fun e w' => e = .returned (.tuple #[.agg #[.int .i64 (lowN (upTo l l.length) s), .int .i64 (lowD (upTo l l.length) s)], .bool (lowB (upTo l l.length) s)]) ∧ Below w.heap.size w w' := by
  have hU := upTo_bd l 1000000000000 (by omega) hb l.length
  have hu : upTo l l.length ≤ 100000000000000 := by
    have : (l.length : Int) * 1000000000000 ≤ 100 * 1000000000000 := Int.mul_le_mul_of_nonneg_right (by omega) (by omega)
    omega
  clear hU
  have HC := Lib.hid (fun W (hW : Below w.heap.size w W) => sum_is v l W (by
    rcases h with ⟨rfl, rfl⟩ | ⟨a, cap, rfl, hL⟩
    · exact Or.inl ⟨rfl, rfl⟩
    · exact Or.inr ⟨a, cap, rfl, liesG_below hL hW⟩) hlen hb)
  have hsh : ∃ a n c, v = .slice a n c := by
    rcases h with ⟨rfl, _⟩ | ⟨a, cap, rfl, _⟩ <;> exact ⟨_, _, _, rfl⟩
  obtain ⟨a, n, c, rfl⟩ := hsh
  clear h hb
  generalize upTo l l.length = U at *
  go_enter Try.func23, Try.ntmps23
  go_wp2_with fail
  refine (HC.out _ (by (repeat (first | with_reducible exact Below.refl _ _ | with_reducible assumption | with_reducible refine balloc ?_ _ | with_reducible refine bdrew ?_ | with_reducible refine below_drewN ?_ _ | with_reducible refine bset ?_ ?_ _ | with_reducible exact Nat.le_refl _ | with_reducible refine bsize ?_ | (dsimp only; refine Nat.le_trans ?_ (Nat.le_add_right _ _)) | with_reducible refine Nat.le_trans ?_ (Nat.le_add_right _ _) | (with_reducible refine bstep ?_ (by assumption)))))).mono ?_
  rintro e w1 ⟨rfl, rfl⟩
  (go_wp2_with fail; refine (low_impl _ _ (by omega) (by omega) _).mono ?_; rintro e w2 ⟨rfl, hb2⟩; have ha2 := hb2; obtain ⟨kc2, kf2, kz2, ky2, kx2, kv2, ku2⟩ := bcell hb2)
  go_wp2
  refine bodyPost_ret (v := .tuple #[.agg #[.int .i64 (lowN U s), .int .i64 (lowD U s)], .bool (lowB U s)]) (by simp only [results, Try.results23]; go_simp) rfl ⟨rfl, ?_⟩
  (repeat (first | with_reducible exact Below.refl _ _ | with_reducible assumption | with_reducible refine balloc ?_ _ | with_reducible refine bdrew ?_ | with_reducible refine below_drewN ?_ _ | with_reducible refine bset ?_ ?_ _ | with_reducible exact Nat.le_refl _ | with_reducible refine bsize ?_ | (dsimp only; refine Nat.le_trans ?_ (Nat.le_add_right _ _)) | with_reducible refine Nat.le_trans ?_ (Nat.le_add_right _ _) | (with_reducible refine bstep ?_ (by assumption))))
theorem tf1 (s x : Int) (bs : s ≤ 9223372036854775807) (b0 : 0 ≤ x ∧ x ≤ 1000000000000) (g : Nat) (w : World) (h0 : w.cell? ⟨g, 0, none⟩ = some (.int .i64 x)) :
    Calls Try.prog 23 #[.int .i64 s, .slice (some ⟨g, 0, none⟩) 1 1] w fun e w' => e = .returned (.tuple #[.agg #[.int .i64 (lowN x s), .int .i64 (lowD x s)], .bool (lowB x s)]) ∧ Below w.heap.size w w' := by
  have h := tf_is s bs _ _ w (rowI1 h0 (by omega)) (by simp) (by simpa using b0)
  have e : upTo [x] [x].length = x := by simp [upTo]
  rw [e] at h; exact h
theorem tf2 (s x y : Int) (bs : s ≤ 9223372036854775807) (b0 : 0 ≤ x ∧ x ≤ 1000000000000) (b1 : 0 ≤ y ∧ y ≤ 1000000000000) (g : Nat) (w : World) (h0 : w.cell? ⟨g, 0, none⟩ = some (.int .i64 x)) (h1 : w.cell? ⟨g, 1, none⟩ = some (.int .i64 y)) :
    Calls Try.prog 23 #[.int .i64 s, .slice (some ⟨g, 0, none⟩) 2 2] w fun e w' => e = .returned (.tuple #[.agg #[.int .i64 (lowN (x + y) s), .int .i64 (lowD (x + y) s)], .bool (lowB (x + y) s)]) ∧ Below w.heap.size w w' := by
  have h := tf_is s bs _ _ w (rowI2 h0 h1 (by omega) (by omega)) (by simp) (by intro z hz; simp at hz; rcases hz with rfl | rfl <;> assumption)
  have e : upTo [x, y] [x, y].length = x + y := by simp [upTo]
  rw [e] at h; exact h
end Go.Proofs.Ytbaaaaceejgofaa
