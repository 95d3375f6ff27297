/- Contracts of journey.drives, journey.parts, SumAmounts over a row, journey.reach, of the program. -/
import Derived.Test.YtgpbkjakmbmccaaAddUp
import Derived.Test.YtgpbkjakmbmccaaFar
namespace Go.Proofs.Ytgpbkjakmbmccaa
open Go.RowKit
set_option maxRecDepth 100000
set_option linter.unusedVariables false
set_option linter.unusedSimpArgs false

theorem drives_impl (j : Int) (k : Nat) (h : OkJ j) (hk : k < 12) (w : World) :
    Calls Try.prog 112 #[.int .i64 j, .int .i64 k] w fun e w' => e = .returned (.int .i64 (drv j k)) ∧ w = w' := by
  have hj : 1 ≤ j ∧ j ≤ 2 := by rcases h with rfl | rfl <;> omega
  unfold drv
  go_enter Try.func112, Try.ntmps112
  go_wp2
  go_ret
  exact ⟨rfl, rfl⟩

theorem drives_q (j : Int) (k : Nat) (h : OkJ j) (hk : k < 12) (w : World) :
    Calls Try.prog 112 #[.int .i64 j, .int .i64 k] w fun e w' => e = .returned (.int .i64 (drv j k)) ∧ w' = w := (drives_impl j k h hk w).mono fun _ _ ⟨a, b⟩ => ⟨a, b.symm⟩

/-- The first i parts of the way with t tanks, nearest to the start first. -/
def pL (j : Int) (t i : Nat) : List (Int × Int) := (List.range i).map fun (m : Nat) => ((1 : Int), drv j (t - 1 - m))
theorem pL_len (j : Int) (t i : Nat) : (pL j t i).length = i := by simp [pL]
theorem pL_succ (j : Int) (t i : Nat) : pL j t (i + 1) = pL j t i ++ [(1, drv j (t - 1 - i))] := by simp [pL, List.range_succ]
theorem pL_sum1 : ∀ t, t < 12 → sumL (pL 1 t t) 0 1 = some (rP 1 t) := by decide +kernel
theorem pL_sum2 : ∀ t, t < 12 → sumL (pL 2 t t) 0 1 = some (rP 2 t) := by decide +kernel
theorem pL_sum (j : Int) (t : Nat) (h : OkJ j) (ht : t < 12) : sumL (pL j t t) 0 1 = some (rP j t) := by
  rcases h with rfl | rfl
  · exact pL_sum1 t ht
  · exact pL_sum2 t ht
theorem pL_bd (j : Int) (t i : Nat) (h : OkJ j) (ht : t < 12) : ∀ p ∈ pL j t i, ∀ y ∈ fAmt p, -9223372036854775808 ≤ y ∧ y ≤ 9223372036854775807 := by
  intro p hp y hy
  simp only [pL, List.mem_map, List.mem_range] at hp
  obtain ⟨m, hm, rfl⟩ := hp
  have := drv_bd j (t - 1 - m) h (by omega)
  simp [fAmt] at hy
  omega

set_option maxHeartbeats 1600000 in
theorem parts_impl (j : Int) (t : Nat) (h : OkJ j) (ht : t < 12) (w : World) :
    Calls Try.prog 94 #[.int .i64 j, .int .i64 t] w fun e w' => ∃ v, e = .returned v ∧ w'.ownsRow w.heap.size 26 2 v t (cellsG fAmt (pL j t t)) ∧ Below w.heap.size w w' := by
  obtain ⟨i0, hi, hz0, hz1, hz2⟩ := info_parts infoAmt
  have hj : 1 ≤ j ∧ j ≤ 2 := by rcases h with rfl | rfl <;> omega
  have hO := Lib.hid h
  clear h
  go_enter Try.func94, Try.ntmps94
  go_wp2
  go_loopw [5, 6] (fun v c wr => ∃ i : Nat, i ≤ t ∧ c = .int .i64 ((t : Int) - 1 - i) ∧ wr.ownsRow w.heap.size 26 2 v i (cellsG fAmt (pL j t i)) ∧ Below w.heap.size w wr) (fun _ c _ => (intOf c + 1).toNat)
  case atStart =>
    exact ⟨0, Nat.zero_le _, by simp, ⟨rfl, Or.inl ⟨rfl, rfl⟩⟩, Below.refl _ _⟩
  case round =>
    obtain ⟨i, hit, rfl, hown, hbel⟩ := hrel
    by_cases hlt : i < t
    · have hc : (t : Int) - 1 - i = ((t - 1 - i : Nat) : Int) := by omega
      rw [hc]
      have hsz : w.heap.size ≤ wr.heap.size := hbel.size
      have hl3 : i ≤ 20 := by omega
      clear hc
      go_wp2_with (first | (go_at_call 112; refine (drives_impl j (t - 1 - i) hO.out (by omega) _).mono ?_; rintro e w1 ⟨rfl, rfl⟩) | (at_builtin; refine wpList_append_own _ rfl _ _ 33 rfl w.heap.size 26 i0 (.agg #[.int .i64 0, .int .i64 0]) 2 16 Try.underlying33 hi hz0 hz1 hz2 rfl (by decide) _ _ _ rfl (hown.alloc _) ⟨wr.heap.size, 0, none⟩ 1 1 [.int .i64 1, .int .i64 (drv j (t - 1 - i))] rfl rfl ?c1 ?c2 ?c3 ?c4 ?c5 ?_))
      case c1 => exact cell_two_new _ _ _ _
      case c2 => simp [Value.oneCell']
      case c3 => unfold maxLen; omega
      case c4 => omega
      case c5 => simp; omega
      intro v' w1 hown' hgrow _
      have hown2 : w1.ownsRow w.heap.size 26 2 v' (i + 1) (cellsG fAmt (pL j t (i + 1))) := by
        rw [pL_succ, cellsG_snoc]; simpa [fAmt] using hown'
      have hbel2 : Below w.heap.size w w1 := by
        refine (hbel.alloc hsz _).grown hgrow ?_ (fun g e => own_block hown e)
        simp; omega
      clear hown' hgrow hown hbel
      go_wp2
      go_roundw
      case rel => exact ⟨i + 1, by omega, by congr 1 <;> omega, hown2, hbel2⟩
      case measure => first | (simp [intOf]; done) | (simp [intOf]; omega)
    · have hit' : i = t := by omega
      subst hit'
      go_wp2
      go_ret
      exact ⟨_, rfl, hown, hbel⟩

/-- SumAmounts at whatever slice of at most 50. -/
theorem sum_row (v : Value) (l : List (Int × Int)) (w : World) (h : RowG 2 fAmt w v l) (h50 : l.length ≤ 50) :
    Calls Try.prog 93 #[v] w fun e w' => e = .returned (.tuple #[.agg #[.int .i64 (oN (sumL l 0 1)), .int .i64 (oD (sumL l 0 1))], .bool (oB (sumL l 0 1))]) ∧ Below w.heap.size w w' := by
  have hcon := fun (W : World) (h : RowG 2 fAmt W v l) => addUp_row v l W h
  have hsh : ∃ a cap, v = .slice a l.length cap := by
    rcases h with ⟨rfl, rfl⟩ | ⟨a, cap, rfl, _⟩
    · exact ⟨none, 0, rfl⟩
    · exact ⟨_, _, rfl⟩
  obtain ⟨a, cap, rfl⟩ := hsh
  have HC := Lib.hid hcon
  have HR := Lib.hid h
  clear hcon h
  go_enter Try.func93, Try.ntmps93
  go_wp2_with fail
  refine (HC.out _ ?_).mono ?_
  · rcases HR.out with ⟨h1, h2⟩ | ⟨a', cap', h1, h2⟩
    · exact Or.inl ⟨h1, h2⟩
    · exact Or.inr ⟨a', cap', h1, liesG_below h2 (by (repeat (first | with_reducible exact Below.refl _ _ | with_reducible assumption | with_reducible refine balloc ?_ _ | with_reducible refine bdrew ?_ | with_reducible refine below_drewN ?_ _ | with_reducible refine bset ?_ ?_ _ | with_reducible exact Nat.le_refl _ | with_reducible refine bsize ?_ | (dsimp only; refine Nat.le_trans ?_ (Nat.le_add_right _ _)) | with_reducible refine Nat.le_trans ?_ (Nat.le_add_right _ _) | (with_reducible refine bstep ?_ (by assumption)))))⟩
  rintro e w3 ⟨rfl, hb3⟩
  obtain ⟨kc3, kf3, kz3, ky3, kx3, kv3, ku3⟩ := bcell hb3
  go_wp2
  refine bodyPost_ret (v := .tuple #[.agg #[.int .i64 (oN (sumL l 0 1)), .int .i64 (oD (sumL l 0 1))], .bool (oB (sumL l 0 1))]) (by simp only [results, Try.results93]; go_simp) rfl ⟨rfl, ?_⟩
  (repeat (first | with_reducible exact Below.refl _ _ | with_reducible assumption | with_reducible refine balloc ?_ _ | with_reducible refine bdrew ?_ | with_reducible refine below_drewN ?_ _ | with_reducible refine bset ?_ ?_ _ | with_reducible exact Nat.le_refl _ | with_reducible refine bsize ?_ | (dsimp only; refine Nat.le_trans ?_ (Nat.le_add_right _ _)) | with_reducible refine Nat.le_trans ?_ (Nat.le_add_right _ _) | (with_reducible refine bstep ?_ (by assumption))))

set_option maxHeartbeats 800000 in
/-- How far with t whole tanks. -/
theorem reach_impl (j : Int) (t : Nat) (h : OkJ j) (ht : t < 12) (w : World) :
    Calls Try.prog 111 #[.int .i64 j, .int .i64 t] w fun e w' => e = .returned (.tuple #[.agg #[.int .i64 (rP j t).1, .int .i64 (rP j t).2], .bool true]) ∧ Below w.heap.size w w' := by
  have hcon := fun (W : World) (v : Value) (hr : RowG 2 fAmt W v (pL j t t)) => sum_row v (pL j t t) W hr (by rw [pL_len]; omega)
  rw [pL_sum j t h ht] at hcon
  simp only [oN, oD, oB, Option.isSome_some] at hcon
  have HC := Lib.hid hcon
  clear hcon
  go_enter Try.func111, Try.ntmps111
  go_wp2_with fail; refine (parts_impl j t h ht _).mono ?_; rintro e w1 ⟨v, rfl, hown, hb1⟩
  obtain ⟨kc1, kf1, kz1, ky1, kx1, kv1, ku1⟩ := bcell hb1
  have hrow : RowG 2 fAmt w1 v (pL j t t) := rowG_own fAmt_len (by rw [pL_len]; exact hown) (pL_bd j t t h ht)
  have HR := Lib.hid hrow
  have ha1 := hb1
  clear hrow hown
  go_wp2_with fail; refine (HC.out _ _ HR.out).mono ?_; rintro e w2 ⟨rfl, hb2⟩
  have ha2 := bstep ha1 hb2
  clear kc1 kf1 kz1 ky1 kx1 kv1 ku1
  obtain ⟨kc2, kf2, kz2, ky2, kx2, kv2, ku2⟩ := bcell ha2
  go_wp2
  refine bodyPost_ret (v := .tuple #[.agg #[.int .i64 (rP j t).1, .int .i64 (rP j t).2], .bool true]) (by simp only [results, Try.results111]; go_simp) rfl ⟨rfl, ?_⟩
  (repeat (first | with_reducible exact Below.refl _ _ | with_reducible assumption | with_reducible refine balloc ?_ _ | with_reducible refine bdrew ?_ | with_reducible refine below_drewN ?_ _ | with_reducible refine bset ?_ ?_ _ | with_reducible exact Nat.le_refl _ | with_reducible refine bsize ?_ | (dsimp only; refine Nat.le_trans ?_ (Nat.le_add_right _ _)) | with_reducible refine Nat.le_trans ?_ (Nat.le_add_right _ _) | (with_reducible refine bstep ?_ (by assumption))))
end Go.Proofs.Ytgpbkjakmbmccaa
