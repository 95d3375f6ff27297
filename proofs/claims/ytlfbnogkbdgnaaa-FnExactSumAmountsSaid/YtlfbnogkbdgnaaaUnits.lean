/- The contract of sumOfUnits: the harmonic sums of the program. -/
import Derived.Test.YtlfbnogkbdgnaaaHarm
import Derived.WalkSmall
namespace Go.Proofs.Ytlfbnogkbdgnaaa
open Go.RowKit
set_option linter.unusedVariables false
set_option linter.unusedSimpArgs false

theorem infoAmt : (Try.prog.info? 25).map (fun i => (i.zero, i.size, i.bytes)) = some (some (.agg #[.int .i64 0, .int .i64 0]), 2, 16) := by kernel_rfl

/-- The first k unit fractions. -/
def uL (st : Int) (k : Nat) : List (Int × Int) := (List.range k).map fun (j : Nat) => ((1 : Int), 1 + (j : Int) * st)
def cellsOf2 (l : List (Int × Int)) : List Value := l.flatMap fun p => [.int .i64 p.1, .int .i64 p.2]
theorem uL_len (st : Int) (k : Nat) : (uL st k).length = k := by simp [uL]
theorem uL_succ (st : Int) (k : Nat) : uL st (k + 1) = uL st k ++ [(1, 1 + (k : Int) * st)] := by simp [uL, List.range_succ]
theorem cells_snoc (l : List (Int × Int)) (p : Int × Int) : cellsOf2 (l ++ [p]) = cellsOf2 l ++ [.int .i64 p.1, .int .i64 p.2] := by simp [cellsOf2]
theorem cells_len (l : List (Int × Int)) : (cellsOf2 l).length = l.length * 2 := by
  induction l with
  | nil => rfl
  | cons a l ih => simp [cellsOf2] at ih ⊢; omega
theorem cells_get (l : List (Int × Int)) (i : Nat) (p : Int × Int) (h : l[i]? = some p) : (cellsOf2 l)[i * 2]? = some (.int .i64 p.1) ∧ (cellsOf2 l)[i * 2 + 1]? = some (.int .i64 p.2) := by
  induction l generalizing i with
  | nil => simp at h
  | cons a l ih =>
    cases i with
    | zero => simp at h; subst h; simp [cellsOf2]
    | succ i =>
      have := ih i (by simpa using h)
      have e : cellsOf2 (a :: l) = .int .i64 a.1 :: .int .i64 a.2 :: cellsOf2 l := by simp [cellsOf2]
      rw [e]
      have e1 : (i + 1) * 2 = i * 2 + 1 + 1 := by omega
      rw [e1]
      simpa using this

/-- A row of amounts that the call owns reads as its list. -/
theorem row_of_owns {w : World} {base : Nat} {v : Value} {l : List (Int × Int)} (h : w.ownsRow base 25 2 v l.length (cellsOf2 l))
    (hbd : ∀ p ∈ l, (-9223372036854775808 ≤ p.1 ∧ p.1 ≤ 9223372036854775807) ∧ -9223372036854775808 ≤ p.2 ∧ p.2 ≤ 9223372036854775807) : Row w v l := by
  obtain ⟨_, h⟩ := h
  rcases h with ⟨hv, hn⟩ | ⟨g, cap, cur, hv, hg, hh, hle, hcap, hsz, htake⟩
  · left; exact ⟨hv, List.length_eq_zero_iff.1 hn⟩
  · right
    have hlt : g < w.heap.size := (Array.getElem?_eq_some_iff.1 hh).1
    refine ⟨g, 0, cap, hv, hlt, hle, by unfold maxLen at hcap; omega, ?_, hbd⟩
    intro i p hp
    have hi : i < l.length := (List.getElem?_eq_some_iff.1 hp).1
    obtain ⟨c1, c2⟩ := cells_get l i p hp
    rw [← htake] at c1 c2
    rw [List.getElem?_take] at c1 c2
    rw [if_pos (by omega)] at c1 c2
    have k1 : cur[i * 2]? = some (.int .i64 p.1) := by rw [← Array.getElem?_toList]; exact c1
    have k2 : cur[i * 2 + 1]? = some (.int .i64 p.2) := by rw [← Array.getElem?_toList]; exact c2
    constructor
    · simp only [World.cell?, Nat.zero_add]; rw [hh]; simpa using k1
    · simp only [World.cell?, Nat.zero_add]; rw [hh]; simpa using k2

theorem own_block {w : World} {base e size n g : Nat} {v : Value} {xs : List Value} (h : w.ownsRow base e size v n xs) (hg : v.ownBlock = some g) : base ≤ g := by
  obtain ⟨_, h⟩ := h
  rcases h with ⟨rfl, _⟩ | ⟨g', cap, cur, rfl, hb, _⟩
  · cases hg
  · simp only [Value.ownBlock, Option.some.injEq] at hg; omega

/-- SumAmounts at whatever slice of at most 50. -/
theorem sum_impl_row (v : Value) (l : List (Int × Int)) (w : World) (h : Row w v l) (h50 : l.length ≤ 50) :
    Calls Try.prog 39 #[v] w fun e w' => e = .returned (.tuple #[.agg #[.int .i64 (oN (sumL l 0 1)), .int .i64 (oD (sumL l 0 1))], .bool (oB (sumL l 0 1))]) ∧ Below w.heap.size w w' := by
  rcases h with ⟨rfl, rfl⟩ | ⟨b, off, cap, rfl, hb, hlc, hcap, hcell, hbd⟩
  · go_enter Try.func39, Try.ntmps39
    go_wp2_with (go_at_call 73; refine (whole_is_impl _ _).mono ?_; rintro e w1 ⟨rfl, rfl⟩)
    go_loopw [16] (fun i wr => i = .int .i64 0 ∧ wr = ((w.alloc (.cells #[.int .i64 0, .int .i64 0] 25)).alloc (.cells #[.int .i64 0, .int .i64 1] 25)).alloc (.cells #[.int .i64 0, .int .i64 1] 25)) (fun _ _ => 0)
    case atStart => exact ⟨rfl, rfl⟩
    case round =>
      obtain ⟨rfl, rfl⟩ := hrel
      go_wp2
      refine bodyPost_ret (v := .tuple #[.agg #[.int .i64 0, .int .i64 1], .bool true]) (by simp only [results, Try.results39]; go_simp) rfl ⟨rfl, ?_⟩
      (repeat (first | exact Below.refl _ _ | assumption | refine balloc ?_ _ | refine bdrew ?_ | refine bset ?_ ?_ _ | exact Nat.le_refl _ | refine bsize ?_ | (dsimp only; refine Nat.le_trans ?_ (Nat.le_add_right _ _)) | refine Nat.le_trans ?_ (Nat.le_add_right _ _) | (refine bstep ?_ (by assumption))))
  · exact sum_impl b off cap l w hb hlc hcap hcell hbd h50

theorem uL_sum1 : ∀ n, n < 21 → sumL (uL 1 n) 0 1 = some (hP 1 n) := by decide +kernel
theorem uL_sum2 : ∀ n, n < 11 → sumL (uL 2 n) 0 1 = some (hP 2 n) := by decide +kernel
theorem uL_sum (st : Int) (n : Nat) (h : OkH st n) : sumL (uL st n) 0 1 = some (hP st n) := by
  rcases h with ⟨rfl, h⟩ | ⟨rfl, h⟩
  · exact uL_sum1 n (by omega)
  · exact uL_sum2 n (by omega)
theorem uL_bd (st : Int) (n : Nat) (h : OkH st n) : ∀ p ∈ uL st n, (-9223372036854775808 ≤ p.1 ∧ p.1 ≤ 9223372036854775807) ∧ -9223372036854775808 ≤ p.2 ∧ p.2 ≤ 9223372036854775807 := by
  intro p hp
  simp only [uL, List.mem_map, List.mem_range] at hp
  obtain ⟨j, hj, rfl⟩ := hp
  rcases h with ⟨rfl, h⟩ | ⟨rfl, h⟩ <;> (simp only; omega)

set_option maxHeartbeats 1600000 in
theorem units_impl (st : Int) (n : Nat) (h : OkH st n) (w : World) :
    Calls Try.prog 75 #[.int .i64 n, .int .i64 st] w fun e w' => e = .returned (.tuple #[.agg #[.int .i64 (hP st n).1, .int .i64 (hP st n).2], .bool true]) ∧ Below w.heap.size w w' := by
  obtain ⟨i0, hi, hz0, hz1, hz2⟩ := info_parts infoAmt
  have hn : n ≤ 20 := by rcases h with h | h <;> omega
  have hO := Lib.hid h
  clear h
  go_enter Try.func75, Try.ntmps75
  go_wp2
  go_loopw [6, 9] (fun v i wr => ∃ k : Nat, k ≤ n ∧ i = .int .i64 k ∧ wr.ownsRow (w.heap.size + 1) 25 2 v (uL st k).length (cellsOf2 (uL st k)) ∧ Below (w.heap.size + 1) (w.alloc (.cells #[.int .i64 0, .int .i64 0] 25)) wr) (fun _ i _ => n - (intOf i).toNat)
  case atStart =>
    exact ⟨0, Nat.zero_le _, rfl, ⟨rfl, Or.inl ⟨rfl, rfl⟩⟩, by simpa using Below.refl (w.alloc (.cells #[.int .i64 0, .int .i64 0] 25)).heap.size _⟩
  case round =>
    obtain ⟨k, hk, rfl, hown, hbel⟩ := hrel
    have hsz : w.heap.size + 1 ≤ wr.heap.size := by have := hbel.size; simpa using this
    by_cases hlt : k < n
    · obtain ⟨_, u2, u3⟩ := unit_am st n k hO.out hlt
      have u2' : 0 ≤ (k : Int) * st := by rw [Int.mul_comm]; exact u2
      have u3' : (k : Int) * st ≤ 40 := by rw [Int.mul_comm]; exact u3
      have hl := uL_len st k
      have HL := Lib.hid hl
      have hl3 : (uL st k).length ≤ 20 := by omega
      clear hl u2 u3
      go_wp2_with (at_builtin; refine wpList_append_own _ rfl _ _ 40 rfl (w.heap.size + 1) 25 i0 (.agg #[.int .i64 0, .int .i64 0]) 2 16 Try.underlying40 hi hz0 hz1 hz2 rfl (by decide) _ _ _ rfl (hown.alloc _) ⟨wr.heap.size, 0, none⟩ 1 1 [.int .i64 1, .int .i64 (1 + k * st)] rfl rfl ?c1 ?c2 ?c3 ?c4 ?c5 ?_)
      case c1 => exact cell_two_new _ _ _ _
      case c2 => simp [Value.oneCell']
      case c3 => unfold maxLen; omega
      case c4 => omega
      case c5 => simp; omega
      intro v' w1 hown' hgrow _
      have hown2 : w1.ownsRow (w.heap.size + 1) 25 2 v' (uL st (k + 1)).length (cellsOf2 (uL st (k + 1))) := by
        rw [uL_succ, cells_snoc]; simpa using hown'
      have hbel2 : Below (w.heap.size + 1) (w.alloc (.cells #[.int .i64 0, .int .i64 0] 25)) w1 := by
        refine (hbel.alloc hsz _).grown hgrow ?_ (fun g e => own_block hown e)
        simp; omega
      clear hown' hgrow hown hbel
      go_wp2
      go_roundw
      case rel => exact ⟨k + 1, by omega, by go_num, hown2, hbel2⟩
      case measure => simp [intOf]; omega
    · have hkn : k = n := by omega
      subst hkn
      have hrow := row_of_owns hown (uL_bd st k hO.out)
      have hcon := fun (W : World) (v : Value) (h : Row W v (uL st k)) => sum_impl_row v (uL st k) W h (by rw [uL_len]; omega)
      rw [uL_sum st k hO.out] at hcon
      simp only [oN, oD, oB, Option.isSome_some] at hcon
      have c0 : wr.cell? ⟨w.heap.size, 0, none⟩ = some (.int .i64 0) := by rw [hbel.cell (p := ⟨w.heap.size, 0, none⟩) (by simp)]; simp [go_sem]
      have c1 : wr.cell? ⟨w.heap.size, 1, none⟩ = some (.int .i64 0) := by rw [hbel.cell (p := ⟨w.heap.size, 1, none⟩) (by simp)]; simp [go_sem]
      have f0 : wr.frozen? ⟨w.heap.size, 0, none⟩ = false := by rw [hbel.frozen (p := ⟨w.heap.size, 0, none⟩) (by simp)]; simp [go_sem]
      have f1 : wr.frozen? ⟨w.heap.size, 1, none⟩ = false := by rw [hbel.frozen (p := ⟨w.heap.size, 1, none⟩) (by simp)]; simp [go_sem]
      have hb0 : Below w.heap.size w wr := ((Below.refl _ _).alloc (Nat.le_refl _) _).trans (hbel.mono (by omega))
      have hlt' : w.heap.size < wr.heap.size := by omega
      have HC := Lib.hid hcon
      have HR := Lib.hid hrow
      clear hcon hrow hown hbel
      go_wp2_with fail
      refine (HC.out _ _ HR.out).mono ?_
      rintro e w3 ⟨rfl, hb3⟩
      obtain ⟨kc3, kf3, kz3, ky3, kx3, kv3, ku3⟩ := bcell hb3
      go_wp2
      refine bodyPost_ret (v := .tuple #[.agg #[.int .i64 (hP st k).1, .int .i64 (hP st k).2], .bool true]) (by simp only [results, Try.results75]; go_simp) rfl ⟨rfl, ?_⟩
      (repeat (first | exact Below.refl _ _ | assumption | refine balloc ?_ _ | refine bdrew ?_ | refine bset ?_ ?_ _ | exact Nat.le_refl _ | refine bsize ?_ | (dsimp only; refine Nat.le_trans ?_ (Nat.le_add_right _ _)) | refine Nat.le_trans ?_ (Nat.le_add_right _ _) | (refine bstep ?_ (by assumption))))
end Go.Proofs.Ytlfbnogkbdgnaaa
