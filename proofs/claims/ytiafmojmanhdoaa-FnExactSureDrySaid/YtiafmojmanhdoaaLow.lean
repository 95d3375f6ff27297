/- Contracts of lowestTerms (the program) and amMake (the model), over the translated program. -/
import Derived.Test.YtiafmojmanhdoaaGcd
import Derived.Lib.SmallJoins
import Derived.Outline
namespace Go.Proofs.Ytiafmojmanhdoaa
open Go.RowKit

set_option maxHeartbeats 400000 in
theorem low_impl_neg (n d : Int) (h1 : n < 0) (w : World) :
    Calls Try.prog 122 #[.int .i64 n, .int .i64 d] w fun e w' => e = .returned (.tuple #[.agg #[.int .i64 0, .int .i64 0], .bool false]) ∧ Below w.heap.size w w' := by
  go_enter Try.func122, Try.ntmps122
  go_wp2
  exact bodyPost_ret (v := .tuple #[.agg #[.int .i64 0, .int .i64 0], .bool false]) (by simp [results, Try.results122, go_sem]) rfl ⟨rfl, (Below.refl _ _).alloc (Nat.le_refl _) _⟩

set_option maxHeartbeats 400000 in
theorem low_impl_den (n d : Int) (h1 : 0 ≤ n) (h2 : d < 1) (w : World) :
    Calls Try.prog 122 #[.int .i64 n, .int .i64 d] w fun e w' => e = .returned (.tuple #[.agg #[.int .i64 0, .int .i64 0], .bool false]) ∧ Below w.heap.size w w' := by
  go_enter Try.func122, Try.ntmps122
  go_wp2
  exact bodyPost_ret (v := .tuple #[.agg #[.int .i64 0, .int .i64 0], .bool false]) (by simp [results, Try.results122, go_sem]) rfl ⟨rfl, (Below.refl _ _).alloc (Nat.le_refl _) _⟩

theorem div_bounds (n g : Int) (h : 0 ≤ n) (hg : 1 ≤ g) (hn : n ≤ 9223372036854775807) : 0 ≤ n / g ∧ n / g ≤ 9223372036854775807 :=
  ⟨Int.ediv_nonneg h (by omega), Int.le_trans (Int.ediv_le_self _ h) hn⟩

set_option maxHeartbeats 400000 in
theorem low_impl_ok (n d : Int) (h1 : 0 ≤ n) (h2 : 1 ≤ d) (hn' : n ≤ 9223372036854775807) (hd' : d ≤ 9223372036854775807) (hb1 : n / gi n d ≤ 1000000000) (hb2 : d / gi n d ≤ 1000000000) (w : World) :
    Calls Try.prog 122 #[.int .i64 n, .int .i64 d] w fun e w' => e = .returned (.tuple #[.agg #[.int .i64 (n / gi n d), .int .i64 (d / gi n d)], .bool true]) ∧ Below w.heap.size w w' := by
  have hg1 := gi_pos n d (by omega)
  have hg2 := gi_le n d h2
  have hq1 := div_bounds n (gi n d) h1 hg1 hn'
  have hq2 := div_bounds d (gi n d) (by omega) hg1 hd'
  go_enter Try.func122, Try.ntmps122
  go_wp2_with (go_at_call 132; refine (common_impl _ _ (by omega) (by omega) (by omega) (by omega) _).mono ?_; rintro e w1 ⟨rfl, hb⟩)
  obtain ⟨hc, hf, hz, hz1, hz2, hz3, hz4⟩ := bcell hb
  go_region
  all_goals go_wp2
  have hbl : Below w.heap.size w w1 := ((Below.refl _ _).alloc (Nat.le_refl _) _).trans (hb.mono (by simp))
  exact bodyPost_ret (v := .tuple #[.agg #[.int .i64 (n / gi n d), .int .i64 (d / gi n d)], .bool true]) (by simp [results, Try.results122, go_sem, hc]) rfl ⟨rfl, ((hbl.setCell (by simp) _).setCell (by simp) _).drew⟩

set_option maxHeartbeats 400000 in
theorem low_impl_big (n d : Int) (h1 : 0 ≤ n) (h2 : 1 ≤ d) (hn' : n ≤ 9223372036854775807) (hd' : d ≤ 9223372036854775807) (hbig : 1000000000 < n / gi n d ∨ 1000000000 < d / gi n d) (w : World) :
    Calls Try.prog 122 #[.int .i64 n, .int .i64 d] w fun e w' => e = .returned (.tuple #[.agg #[.int .i64 0, .int .i64 0], .bool false]) ∧ Below w.heap.size w w' := by
  have hg1 := gi_pos n d (by omega)
  have hg2 := gi_le n d h2
  have hq1 := div_bounds n (gi n d) h1 hg1 hn'
  have hq2 := div_bounds d (gi n d) (by omega) hg1 hd'
  by_cases h : 1000000000 < n / gi n d
  all_goals
    go_enter Try.func122, Try.ntmps122
    go_wp2_with (go_at_call 132; refine (common_impl _ _ (by omega) (by omega) (by omega) (by omega) _).mono ?_; rintro e w1 ⟨rfl, hb⟩)
    obtain ⟨hc, hf, hz, hz1, hz2, hz3, hz4⟩ := bcell hb
    go_region
    all_goals go_wp2
    have hbl : Below w.heap.size w w1 := ((Below.refl _ _).alloc (Nat.le_refl _) _).trans (hb.mono (by simp))
    exact bodyPost_ret (v := .tuple #[.agg #[.int .i64 0, .int .i64 0], .bool false]) (by simp [results, Try.results122, go_sem, hc]) rfl ⟨rfl, ((hbl.setCell (by simp) _).setCell (by simp) _).drew⟩

/-- lowestTerms, at whatever numbers. -/
theorem low_impl (n d : Int) (hn' : n ≤ 9223372036854775807) (hd' : d ≤ 9223372036854775807) (w : World) :
    Calls Try.prog 122 #[.int .i64 n, .int .i64 d] w fun e w' => e = .returned (.tuple #[.agg #[.int .i64 (lowN n d), .int .i64 (lowD n d)], .bool (lowB n d)]) ∧ Below w.heap.size w w' := by
  cases hb : lowB n d
  · rw [lowN_no n d hb, lowD_no n d hb]
    have hno : ¬ (0 ≤ n ∧ 1 ≤ d ∧ n / gi n d ≤ 1000000000 ∧ d / gi n d ≤ 1000000000) := by rw [← lowB_iff, hb]; simp
    by_cases h1 : n < 0
    · exact low_impl_neg n d h1 w
    · by_cases h2 : d < 1
      · exact low_impl_den n d (by omega) h2 w
      · exact low_impl_big n d (by omega) (by omega) hn' hd' (by omega) w
  · have hy := (lowB_iff n d).1 hb
    unfold lowN lowD
    rw [if_pos hb, if_pos hb]
    exact low_impl_ok n d hy.1 hy.2.1 hn' hd' hy.2.2.1 hy.2.2.2 w
end Go.Proofs.Ytiafmojmanhdoaa
