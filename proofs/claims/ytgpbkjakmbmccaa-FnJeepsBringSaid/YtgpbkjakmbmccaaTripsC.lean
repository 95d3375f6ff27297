/- Contracts of TripsOut, on both sides. -/
import Derived.Test.YtgpbkjakmbmccaaAns
import Derived.Test.YtgpbkjakmbmccaaOInt
import Derived.Test.YtgpbkjakmbmccaaMake
import Derived.IntWalk
namespace Go.Proofs.Ytgpbkjakmbmccaa
open Go.RowKit
set_option maxRecDepth 100000
set_option linter.unusedVariables false
set_option linter.unusedSimpArgs false

/-- Is it a number of tanks? -/
def tkOk (t : Int) : Bool := inB t 0 10
/-- The first i numbers: t, t - 1, .. -/
def trP (t i : Nat) : List Int := (List.range i).map fun (m : Nat) => (t : Int) - m
theorem trP_len (t i : Nat) : (trP t i).length = i := by simp [trP]
theorem trP_succ (t i : Nat) : trP t (i + 1) = trP t i ++ [(t : Int) - i] := by simp [trP, List.range_succ]
def trL (t : Int) : List Int := if tkOk t = true then trP t.toNat (t.toNat - 1) else []
theorem tripsOut_len (t : Int) : (trL t).length ≤ 1000 := by
  unfold trL; split
  · rename_i h; unfold tkOk inB at h; rw [trP_len]; simp at h; omega
  · simp
theorem tk_nat {t : Int} (h : tkOk t = true) : ∃ k : Nat, k ≤ 10 ∧ t = k := by
  unfold tkOk inB at h; simp at h; exact ⟨t.toNat, by omega, by omega⟩

theorem jeTanks_spec (t : Int) (w : World) :
    Calls Try.prog 60 #[.int .i64 t] w fun e w' => e = .returned (.bool (tkOk t)) ∧ w = w' := by
  go_enter Try.func60, Try.ntmps60
  go_wp2_with (go_at_call 100; refine (in_spec _ _ _ _).mono ?_; rintro e w1 ⟨rfl, rfl⟩)
  go_ret
  exact ⟨rfl, rfl⟩

theorem trips_spec_no (t : Int) (h : tkOk t = false) (w : World) :
    Calls Try.prog 19 #[.int .i64 t] w (AnsG 3 1 fInt [] false w) := by
  go_enter Try.func19, Try.ntmps19
  go_wp2_with (go_at_call 60; refine (jeTanks_spec _ _).mono ?_; rintro e w1 ⟨rfl, rfl⟩; rw [h])
  go_ret2
  exact ⟨_, rfl, ⟨rfl, Or.inl ⟨rfl, rfl⟩⟩, Below.refl _ _⟩
set_option maxHeartbeats 1600000 in
theorem trips_spec_yes (t : Nat) (ht : t ≤ 10) (w : World) :
    Calls Try.prog 19 #[.int .i64 t] w (AnsG 3 1 fInt (trP t (t - 1)) true w) := by
  obtain ⟨i0, hi, hz0, hz1, hz2⟩ := info_parts infoInt
  have h : tkOk t = true := by unfold tkOk inB; simp; omega
  go_enter Try.func19, Try.ntmps19
  go_wp2_with (go_at_call 60; refine (jeTanks_spec _ _).mono ?_; rintro e w1 ⟨rfl, rfl⟩; rw [h])
  go_loopw [4, 5] (fun v c wr => ∃ i : Nat, i ≤ t - 1 ∧ c = .int .i64 ((t : Int) - 1 - i) ∧ wr.ownsRow w.heap.size 3 1 v i (cellsG fInt (trP t i)) ∧ Below w.heap.size w wr) (fun _ c _ => (intOf c + 1).toNat)
  case atStart => exact ⟨0, Nat.zero_le _, by simp, ⟨rfl, Or.inl ⟨rfl, rfl⟩⟩, Below.refl _ _⟩
  case round =>
    obtain ⟨i, hit, rfl, hown, hbel⟩ := hrel
    by_cases hlt : i < t - 1
    · have hl3 : i ≤ 20 := by omega
      have hsz : w.heap.size ≤ wr.heap.size := hbel.size
      have hc : ∃ y : Int, (t : Int) - 1 - i = y ∧ 1 ≤ y ∧ y ≤ 10 := ⟨_, rfl, by omega, by omega⟩
      obtain ⟨y, hy, y0, y1⟩ := hc
      rw [hy]
      have HY := Lib.hid hy
      clear hy h
      go_wp2_with (at_builtin; refine wpList_append_own _ rfl _ _ 42 rfl w.heap.size 3 i0 (.int .i64 0) 1 8 Try.underlying42 hi hz0 hz1 hz2 rfl (by decide) _ _ _ rfl (hown.alloc _) ⟨wr.heap.size, 0, none⟩ 1 1 [.int .i64 (y + 1)] rfl rfl ?c1 ?c2 ?c3 ?c4 ?c5 ?_)
      case c1 => exact cell_one_new _ _ _
      case c2 => simp [Value.oneCell']
      case c3 => unfold maxLen; omega
      case c4 => omega
      case c5 => first | (simp; omega) | omega
      intro v' w1 hown' hgrow _
      have hown2 : w1.ownsRow w.heap.size 3 1 v' (i + 1) (cellsG fInt (trP t (i + 1))) := by
        have e : (t : Int) - i = y + 1 := by have := HY.out; omega
        rw [trP_succ, cellsG_snoc, e]; simpa [fInt] using hown'
      have hbel2 : Below w.heap.size w w1 := by
        refine (hbel.alloc hsz _).grown hgrow ?_ (fun g e => own_block hown e)
        simp; omega
      clear hown' hgrow hown hbel
      go_wp2
      go_roundw
      case rel => exact ⟨i + 1, by omega, by have := HY.out; congr 1; omega, hown2, hbel2⟩
      case measure => first | (simp [intOf]; done) | (simp [intOf]; omega)
    · have hit' : i = t - 1 := by omega
      subst hit'
      have hc : ∃ y : Int, (t : Int) - 1 - ((t - 1 : Nat) : Int) = y ∧ y ≤ 0 ∧ -1 ≤ y := ⟨_, rfl, by omega, by omega⟩
      obtain ⟨y, hy, y0, y1⟩ := hc
      rw [hy]
      clear hy h
      go_wp2
      go_ret2
      exact ⟨_, rfl, by rw [trP_len]; exact hown, hbel⟩
theorem tripsOut_spec (t : Int) (bt : -9223372036854775808 ≤ t ∧ t ≤ 9223372036854775807) (w : World) :
    Calls Try.prog 19 #[.int .i64 t] w (AnsG 3 1 fInt (trL t) (tkOk t) w) := by
  unfold trL
  cases h : tkOk t
  · rw [if_neg (by simp)]; exact trips_spec_no t h w
  · rw [if_pos rfl]
    obtain ⟨k, hk, rfl⟩ := tk_nat h
    exact trips_spec_yes k hk w

theorem trips_impl_no (t : Int) (h : tkOk t = false) (w : World) :
    Calls Try.prog 18 #[.int .i64 t] w (AnsG 3 1 fInt [] false w) := by
  go_enter Try.func18, Try.ntmps18
  go_wp2_with (go_at_call 49; refine (in_impl _ _ _ _).mono ?_; rintro e w1 ⟨rfl, rfl⟩; rw [show inB t 0 10 = false from h])
  go_ret2
  exact ⟨_, rfl, ⟨rfl, Or.inl ⟨rfl, rfl⟩⟩, Below.refl _ _⟩
set_option maxHeartbeats 1600000 in
theorem trips_impl_yes (t : Nat) (ht : t ≤ 10) (w : World) :
    Calls Try.prog 18 #[.int .i64 t] w (AnsG 3 1 fInt (trP t (t - 1)) true w) := by
  obtain ⟨i0, hi, hz0, hz1, hz2⟩ := info_parts infoInt
  have h : tkOk t = true := by unfold tkOk inB; simp; omega
  go_enter Try.func18, Try.ntmps18
  go_wp2_with (go_at_call 49; refine (in_impl _ _ _ _).mono ?_; rintro e w1 ⟨rfl, rfl⟩; rw [show inB (t : Int) 0 10 = true from h])
  go_loopw [4, 5] (fun v c wr => ∃ i : Nat, i ≤ t - 1 ∧ c = .int .i64 ((t : Int) - 1 - i) ∧ wr.ownsRow w.heap.size 3 1 v i (cellsG fInt (trP t i)) ∧ Below w.heap.size w wr) (fun _ c _ => (intOf c + 1).toNat)
  case atStart => exact ⟨0, Nat.zero_le _, by simp, ⟨rfl, Or.inl ⟨rfl, rfl⟩⟩, Below.refl _ _⟩
  case round =>
    obtain ⟨i, hit, rfl, hown, hbel⟩ := hrel
    by_cases hlt : i < t - 1
    · have hl3 : i ≤ 20 := by omega
      have hsz : w.heap.size ≤ wr.heap.size := hbel.size
      have hc : ∃ y : Int, (t : Int) - 1 - i = y ∧ 1 ≤ y ∧ y ≤ 10 := ⟨_, rfl, by omega, by omega⟩
      obtain ⟨y, hy, y0, y1⟩ := hc
      rw [hy]
      have HY := Lib.hid hy
      clear hy h
      go_wp2_with (at_builtin; refine wpList_append_own _ rfl _ _ 42 rfl w.heap.size 3 i0 (.int .i64 0) 1 8 Try.underlying42 hi hz0 hz1 hz2 rfl (by decide) _ _ _ rfl (hown.alloc _) ⟨wr.heap.size, 0, none⟩ 1 1 [.int .i64 (y + 1)] rfl rfl ?c1 ?c2 ?c3 ?c4 ?c5 ?_)
      case c1 => exact cell_one_new _ _ _
      case c2 => simp [Value.oneCell']
      case c3 => unfold maxLen; omega
      case c4 => omega
      case c5 => first | (simp; omega) | omega
      intro v' w1 hown' hgrow _
      have hown2 : w1.ownsRow w.heap.size 3 1 v' (i + 1) (cellsG fInt (trP t (i + 1))) := by
        have e : (t : Int) - i = y + 1 := by have := HY.out; omega
        rw [trP_succ, cellsG_snoc, e]; simpa [fInt] using hown'
      have hbel2 : Below w.heap.size w w1 := by
        refine (hbel.alloc hsz _).grown hgrow ?_ (fun g e => own_block hown e)
        simp; omega
      clear hown' hgrow hown hbel
      go_wp2
      go_roundw
      case rel => exact ⟨i + 1, by omega, by have := HY.out; congr 1; omega, hown2, hbel2⟩
      case measure => first | (simp [intOf]; done) | (simp [intOf]; omega)
    · have hit' : i = t - 1 := by omega
      subst hit'
      have hc : ∃ y : Int, (t : Int) - 1 - ((t - 1 : Nat) : Int) = y ∧ y ≤ 0 ∧ -1 ≤ y := ⟨_, rfl, by omega, by omega⟩
      obtain ⟨y, hy, y0, y1⟩ := hc
      rw [hy]
      clear hy h
      go_wp2
      go_ret2
      exact ⟨_, rfl, by rw [trP_len]; exact hown, hbel⟩
theorem tripsOut_impl (t : Int) (bt : -9223372036854775808 ≤ t ∧ t ≤ 9223372036854775807) (w : World) :
    Calls Try.prog 18 #[.int .i64 t] w (AnsG 3 1 fInt (trL t) (tkOk t) w) := by
  unfold trL
  cases h : tkOk t
  · rw [if_neg (by simp)]; exact trips_impl_no t h w
  · rw [if_pos rfl]
    obtain ⟨k, hk, rfl⟩ := tk_nat h
    exact trips_impl_yes k hk w
end Go.Proofs.Ytgpbkjakmbmccaa
