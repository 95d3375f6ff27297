/- The contract of sumOfUnits: the harmonic sums of the program. -/
import Derived.Test.YtgpbkjakmbmccaaAddUp
import Derived.Test.YtgpbkjakmbmccaaHar5
import Derived.WalkSmall
namespace Go.Proofs.Ytgpbkjakmbmccaa
open Go.RowKit
set_option maxRecDepth 100000
set_option linter.unusedVariables false
set_option linter.unusedSimpArgs false

/-- The first k unit fractions. -/
def uL (st : Int) (k : Nat) : List (Int × Int) := (List.range k).map fun (j : Nat) => ((1 : Int), 1 + (j : Int) * st)
theorem uL_len (st : Int) (k : Nat) : (uL st k).length = k := by simp [uL]
theorem uL_succ (st : Int) (k : Nat) : uL st (k + 1) = uL st k ++ [(1, 1 + (k : Int) * st)] := by simp [uL, List.range_succ]
theorem uL_sum1 : ∀ n, n < 21 → sumL (uL 1 n) 0 1 = some (hP 1 n) := by decide +kernel
theorem uL_sum2 : ∀ n, n < 11 → sumL (uL 2 n) 0 1 = some (hP 2 n) := by decide +kernel
theorem uL_sum (st : Int) (n : Nat) (h : OkH st n) : sumL (uL st n) 0 1 = some (hP st n) := by
  rcases h with ⟨rfl, h⟩ | ⟨rfl, h⟩
  · exact uL_sum1 n (by omega)
  · exact uL_sum2 n (by omega)
theorem uL_bd (st : Int) (n : Nat) (h : OkH st n) : ∀ p ∈ uL st n, ∀ y ∈ fAmt p, -9223372036854775808 ≤ y ∧ y ≤ 9223372036854775807 := by
  intro p hp y hy
  simp only [uL, List.mem_map, List.mem_range] at hp
  obtain ⟨j, hj, rfl⟩ := hp
  simp [fAmt] at hy
  rcases h with ⟨rfl, h⟩ | ⟨rfl, h⟩ <;> omega

/-- SumAmounts at whatever slice of at most 50. -/
theorem sum_row (v : Value) (l : List (Int × Int)) (w : World) (h : RowG 2 fAmt w v l) (h50 : l.length ≤ 50) :
    Calls Try.prog 93 #[v] w fun e w' => e = .returned (.tuple #[.agg #[.int .i64 (oN (sumL l 0 1)), .int .i64 (oD (sumL l 0 1))], .bool (oB (sumL l 0 1))]) ∧ Below w.heap.size w w' := by
  have hcon := fun (W : World) (h : RowG 2 fAmt W v l) => addUp_row v l W h
  have hsh : ∃ a cap, v = .slice a l.length cap := by
    rcases h with ⟨rfl, rfl⟩ | ⟨a, cap, rfl, _⟩
    · exact ⟨none, 0, rfl⟩
    · exact ⟨_, _, rfl⟩
  obtain ⟨a, cap, rfl⟩ := hsh
  have HC := Lib.hid hcon
  have HR := Lib.hid h
  clear hcon h
  go_enter Try.func93, Try.ntmps93
  go_wp2_with fail
  refine (HC.out _ ?_).mono ?_
  · rcases HR.out with ⟨h1, h2⟩ | ⟨a', cap', h1, h2⟩
    · exact Or.inl ⟨h1, h2⟩
    · exact Or.inr ⟨a', cap', h1, liesG_below h2 (by (repeat (first | with_reducible exact Below.refl _ _ | with_reducible assumption | with_reducible refine balloc ?_ _ | with_reducible refine bdrew ?_ | with_reducible refine below_drewN ?_ _ | with_reducible refine bset ?_ ?_ _ | with_reducible exact Nat.le_refl _ | with_reducible refine bsize ?_ | (dsimp only; refine Nat.le_trans ?_ (Nat.le_add_right _ _)) | with_reducible refine Nat.le_trans ?_ (Nat.le_add_right _ _) | (with_reducible refine bstep ?_ (by assumption)))))⟩
  rintro e w3 ⟨rfl, hb3⟩
  obtain ⟨kc3, kf3, kz3, ky3, kx3, kv3, ku3⟩ := bcell hb3
  go_wp2
  refine bodyPost_ret (v := .tuple #[.agg #[.int .i64 (oN (sumL l 0 1)), .int .i64 (oD (sumL l 0 1))], .bool (oB (sumL l 0 1))]) (by simp only [results, Try.results93]; go_simp) rfl ⟨rfl, ?_⟩
  (repeat (first | with_reducible exact Below.refl _ _ | with_reducible assumption | with_reducible refine balloc ?_ _ | with_reducible refine bdrew ?_ | with_reducible refine below_drewN ?_ _ | with_reducible refine bset ?_ ?_ _ | with_reducible exact Nat.le_refl _ | with_reducible refine bsize ?_ | (dsimp only; refine Nat.le_trans ?_ (Nat.le_add_right _ _)) | with_reducible refine Nat.le_trans ?_ (Nat.le_add_right _ _) | (with_reducible refine bstep ?_ (by assumption))))

set_option maxHeartbeats 1600000 in
theorem units_impl (st : Int) (n : Nat) (h : OkH st n) (w : World) :
    Calls Try.prog 109 #[.int .i64 n, .int .i64 st] w fun e w' => e = .returned (.tuple #[.agg #[.int .i64 (hP st n).1, .int .i64 (hP st n).2], .bool true]) ∧ Below w.heap.size w w' := by
  obtain ⟨i0, hi, hz0, hz1, hz2⟩ := info_parts infoAmt
  have hn : n ≤ 20 := by rcases h with h | h <;> omega
  have hO := Lib.hid h
  clear h
  go_enter Try.func109, Try.ntmps109
  go_wp2
  go_loopw [6, 9] (fun v i wr => ∃ k : Nat, k ≤ n ∧ i = .int .i64 k ∧ wr.ownsRow (w.heap.size + 1) 26 2 v k (cellsG fAmt (uL st k)) ∧ Below (w.heap.size + 1) (w.alloc (.cells #[.int .i64 0, .int .i64 0] 26)) wr) (fun _ i _ => n - (intOf i).toNat)
  case atStart =>
    exact ⟨0, Nat.zero_le _, rfl, ⟨rfl, Or.inl ⟨rfl, rfl⟩⟩, by simpa using Below.refl (w.alloc (.cells #[.int .i64 0, .int .i64 0] 26)).heap.size _⟩
  case round =>
    obtain ⟨k, hk, rfl, hown, hbel⟩ := hrel
    have hsz : w.heap.size + 1 ≤ wr.heap.size := by have := hbel.size; simpa using this
    by_cases hlt : k < n
    · obtain ⟨_, u2, u3⟩ := unit_am st n k hO.out hlt
      have u2' : 0 ≤ (k : Int) * st := by rw [Int.mul_comm]; exact u2
      have u3' : (k : Int) * st ≤ 40 := by rw [Int.mul_comm]; exact u3
      clear u2 u3
      go_wp2_with (at_builtin; refine wpList_append_own _ rfl _ _ 33 rfl (w.heap.size + 1) 26 i0 (.agg #[.int .i64 0, .int .i64 0]) 2 16 Try.underlying33 hi hz0 hz1 hz2 rfl (by decide) _ _ _ rfl (hown.alloc _) ⟨wr.heap.size, 0, none⟩ 1 1 [.int .i64 1, .int .i64 (1 + k * st)] rfl rfl ?c1 ?c2 ?c3 ?c4 ?c5 ?_)
      case c1 => exact cell_two_new _ _ _ _
      case c2 => simp [Value.oneCell']
      case c3 => unfold maxLen; omega
      case c4 => omega
      case c5 => simp; omega
      intro v' w1 hown' hgrow _
      have hown2 : w1.ownsRow (w.heap.size + 1) 26 2 v' (k + 1) (cellsG fAmt (uL st (k + 1))) := by
        rw [uL_succ, cellsG_snoc]; simpa [fAmt] using hown'
      have hbel2 : Below (w.heap.size + 1) (w.alloc (.cells #[.int .i64 0, .int .i64 0] 26)) w1 := by
        refine (hbel.alloc hsz _).grown hgrow ?_ (fun g e => own_block hown e)
        simp; omega
      clear hown' hgrow hown hbel
      go_wp2
      go_roundw
      case rel => exact ⟨k + 1, by omega, by go_num, hown2, hbel2⟩
      case measure => simp [intOf]; omega
    · have hkn : k = n := by omega
      subst hkn
      have hrow : RowG 2 fAmt wr _ (uL st k) := rowG_own fAmt_len (by rw [uL_len]; exact hown) (uL_bd st k hO.out)
      have hcon := fun (W : World) (v : Value) (h : RowG 2 fAmt W v (uL st k)) => sum_row v (uL st k) W h (by rw [uL_len]; omega)
      rw [uL_sum st k hO.out] at hcon
      simp only [oN, oD, oB, Option.isSome_some] at hcon
      have c0 : wr.cell? ⟨w.heap.size, 0, none⟩ = some (.int .i64 0) := by rw [hbel.cell (p := ⟨w.heap.size, 0, none⟩) (by simp)]; simp [go_sem]
      have c1 : wr.cell? ⟨w.heap.size, 1, none⟩ = some (.int .i64 0) := by rw [hbel.cell (p := ⟨w.heap.size, 1, none⟩) (by simp)]; simp [go_sem]
      have f0 : wr.frozen? ⟨w.heap.size, 0, none⟩ = false := by rw [hbel.frozen (p := ⟨w.heap.size, 0, none⟩) (by simp)]; simp [go_sem]
      have f1 : wr.frozen? ⟨w.heap.size, 1, none⟩ = false := by rw [hbel.frozen (p := ⟨w.heap.size, 1, none⟩) (by simp)]; simp [go_sem]
      have hb0 : Below w.heap.size w wr := ((Below.refl _ _).alloc (Nat.le_refl _) _).trans (hbel.mono (by omega))
      have hlt' : w.heap.size < wr.heap.size := by omega
      have HC := Lib.hid hcon
      have HR := Lib.hid hrow
      clear hcon hrow hown hbel
      go_wp2_with fail
      refine (HC.out _ _ HR.out).mono ?_
      rintro e w3 ⟨rfl, hb3⟩
      obtain ⟨kc3, kf3, kz3, ky3, kx3, kv3, ku3⟩ := bcell hb3
      go_wp2
      refine bodyPost_ret (v := .tuple #[.agg #[.int .i64 (hP st k).1, .int .i64 (hP st k).2], .bool true]) (by simp only [results, Try.results109]; go_simp) rfl ⟨rfl, ?_⟩
      (repeat (first | with_reducible exact Below.refl _ _ | with_reducible assumption | with_reducible refine balloc ?_ _ | with_reducible refine bdrew ?_ | with_reducible refine below_drewN ?_ _ | with_reducible refine bset ?_ ?_ _ | with_reducible exact Nat.le_refl _ | with_reducible refine bsize ?_ | (dsimp only; refine Nat.le_trans ?_ (Nat.le_add_right _ _)) | with_reducible refine Nat.le_trans ?_ (Nat.le_add_right _ _) | (with_reducible refine bstep ?_ (by assumption))))
end Go.Proofs.Ytgpbkjakmbmccaa
