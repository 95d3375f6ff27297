/- Contracts of amHarmonic, jeFuel and jeFar, of the model. -/
import Derived.Test.YtbhdnocdpincpaaJeep2
import Derived.Test.YtbhdnocdpincpaaPubS1
import Derived.Test.YtbhdnocdpincpaaPubS4
import Derived.Test.YtbhdnocdpincpaaCmp
import Derived.Deep.RegionHeld3
import Derived.Deep.DeepCutAuto
namespace Go.Proofs.Ytbhdnocdpincpaa
open Go.RowKit
set_option maxRecDepth 100000
set_option linter.unusedVariables false
set_option linter.unusedSimpArgs false

/-- The harmonic sums of 0 to 11, and the odd ones. -/
def tabH : List (Int × Int) := [(0, 1), (1, 1), (3, 2), (11, 6), (25, 12), (137, 60), (49, 20), (363, 140), (761, 280), (7129, 2520), (7381, 2520), (83711, 27720)]
def gP (st : Int) (k : Nat) : Int × Int := if st = 1 then (tabH[k]?).getD (0, 1) else (tabO[k]?).getD (0, 1)
def OkG (st : Int) (n : Nat) : Prop := (st = 1 ∨ st = 2) ∧ n < 12
def gOk (st : Int) (k : Nat) : Bool :=
  amB (gP st k).1 (gP st k).2 && lowB ((gP st k).1 * (1 + st * k) + 1 * (gP st k).2) ((gP st k).2 * (1 + st * k)) &&
  lowN ((gP st k).1 * (1 + st * k) + 1 * (gP st k).2) ((gP st k).2 * (1 + st * k)) == (gP st (k + 1)).1 &&
  lowD ((gP st k).1 * (1 + st * k) + 1 * (gP st k).2) ((gP st k).2 * (1 + st * k)) == (gP st (k + 1)).2
theorem g_all1 : ∀ k, k < 11 → gOk 1 k = true := by decide +kernel
theorem g_all2 : ∀ k, k < 11 → gOk 2 k = true := by decide +kernel
theorem g_am1 : ∀ k, k < 12 → amB (gP 1 k).1 (gP 1 k).2 = true := by decide +kernel
theorem g_am2 : ∀ k, k < 12 → amB (gP 2 k).1 (gP 2 k).2 = true := by decide +kernel
theorem g_step (st : Int) (n k : Nat) (h : OkG st n) (hk : k < n) : lowB ((gP st k).1 * (1 + st * k) + 1 * (gP st k).2) ((gP st k).2 * (1 + st * k)) = true ∧
    lowN ((gP st k).1 * (1 + st * k) + 1 * (gP st k).2) ((gP st k).2 * (1 + st * k)) = (gP st (k + 1)).1 ∧ lowD ((gP st k).1 * (1 + st * k) + 1 * (gP st k).2) ((gP st k).2 * (1 + st * k)) = (gP st (k + 1)).2 := by
  have hs : gOk st k = true := by
    obtain ⟨rfl | rfl, h⟩ := h
    · exact g_all1 k (by omega)
    · exact g_all2 k (by omega)
  simp only [gOk, Bool.and_eq_true, beq_iff_eq] at hs
  exact ⟨hs.1.1.2, hs.1.2, hs.2⟩
theorem g_am (st : Int) (n k : Nat) (h : OkG st n) (hk : k ≤ n) : amB (gP st k).1 (gP st k).2 = true := by
  obtain ⟨rfl | rfl, h⟩ := h
  · exact g_am1 k (by omega)
  · exact g_am2 k (by omega)
theorem g_zero (st : Int) : gP st 0 = (0, 1) := by unfold gP; split <;> rfl
theorem g_unit (st : Int) (n k : Nat) (h : OkG st n) (hk : k < n) : amB 1 (1 + st * k) = true ∧ 0 ≤ st * k ∧ st * k ≤ 40 := by
  have hb : 0 ≤ st * k ∧ st * k ≤ 40 := by
    obtain ⟨rfl | rfl, h⟩ := h <;> omega
  refine ⟨?_, hb⟩
  rw [amB_iff]
  refine ⟨by omega, by omega, by omega, by omega, ?_⟩
  unfold gi; rw [Int.gcd_one_left]; rfl

set_option maxHeartbeats 1600000 in
theorem harmS (st : Int) (n : Nat) (h : OkG st n) (w : World) :
    Calls Try.prog 61 #[.int .i64 n, .int .i64 st] w fun e w' => e = .returned (.agg #[.int .i64 (gP st n).1, .int .i64 (gP st n).2]) ∧ Below w.heap.size w w' := by
  have hn : n < 12 := h.2
  have hO := Lib.hid h
  clear h
  go_enter Try.func61, Try.ntmps61
  go_wp2_with (go_at_call 45; refine (whole_is_spec _ _).mono ?_; rintro e w1 ⟨rfl, rfl⟩)
  go_loopw [6] (fun i wr => ∃ k : Nat, k ≤ n ∧ i = .int .i64 k ∧ wr.cell? ⟨w.heap.size + 1 + 1, 0, none⟩ = some (.int .i64 (gP st k).1) ∧ wr.cell? ⟨w.heap.size + 1 + 1, 1, none⟩ = some (.int .i64 (gP st k).2) ∧
      wr.frozen? ⟨w.heap.size + 1 + 1, 0, none⟩ = false ∧ wr.frozen? ⟨w.heap.size + 1 + 1, 1, none⟩ = false ∧ wr.cell? ⟨w.heap.size, 0, none⟩ = some (.int .i64 0) ∧ wr.cell? ⟨w.heap.size, 1, none⟩ = some (.int .i64 0) ∧
      wr.frozen? ⟨w.heap.size, 0, none⟩ = false ∧ wr.frozen? ⟨w.heap.size, 1, none⟩ = false ∧ w.heap.size + 1 + 1 < wr.heap.size ∧ Below w.heap.size w wr) (fun i _ => n - (intOf i).toNat)
  case atStart =>
    refine ⟨0, Nat.zero_le _, rfl, by rw [g_zero]; simp [go_sem], by rw [g_zero]; simp [go_sem], by simp [go_sem], by simp [go_sem], by simp [go_sem], by simp [go_sem], by simp [go_sem], by simp [go_sem], by simp, ?_⟩
    (repeat (first | with_reducible exact Below.refl _ _ | with_reducible assumption | with_reducible refine balloc ?_ _ | with_reducible refine bdrew ?_ | with_reducible refine below_drewN ?_ _ | with_reducible refine bset ?_ ?_ _ | with_reducible exact Nat.le_refl _ | with_reducible refine bsize ?_ | (dsimp only; refine Nat.le_trans ?_ (Nat.le_add_right _ _)) | with_reducible refine Nat.le_trans ?_ (Nat.le_add_right _ _) | (with_reducible refine bstep ?_ (by assumption))))
  case round =>
    obtain ⟨k, hk, rfl, s1, s2, s3, s4, r1, r2, r3, r4, hs, hbel⟩ := hrel
    by_cases hlt : k < n
    · obtain ⟨u1, u2, u3⟩ := g_unit st n k hO.out hlt
      have hxa := am_of _ _ (g_am st n k hO.out hk)
      have hua := am_of _ _ u1
      have hcon := fun W => amAdd_spec (gP st k).1 (gP st k).2 1 (1 + st * k) hxa hua W
      rw [(g_step st n k hO.out hlt).1, (g_step st n k hO.out hlt).2.1, (g_step st n k hO.out hlt).2.2] at hcon
      have HC := Lib.hid hcon
      clear hcon hxa hua u1
      go_wp2_with fail
      refine (HC.out _).mono ?_
      rintro e w3 ⟨rfl, hb3⟩
      obtain ⟨kc3, kf3, kz3, ky3, kx3, kv3, ku3⟩ := bcell hb3
      have z3 : w.heap.size < wr.heap.size := by omega
      have q0 := (kc3 w.heap.size 0 z3).trans r1
      have q1 := (kc3 w.heap.size 1 z3).trans r2
      have q2 := (kf3 w.heap.size 0 z3).trans r3
      have q3 := (kf3 w.heap.size 1 z3).trans r4
      have q4 := (kc3 (w.heap.size + 1 + 1) 0 hs).trans s1
      have q5 := (kc3 (w.heap.size + 1 + 1) 1 hs).trans s2
      have q6 := (kf3 (w.heap.size + 1 + 1) 0 hs).trans s3
      have q7 := (kf3 (w.heap.size + 1 + 1) 1 hs).trans s4
      have z2 := kz3 (w.heap.size + 1 + 1) hs
      clear kc3 kf3 kz3 ky3 kx3 kv3 ku3
      go_wp2
      go_roundw
      case rel =>
        refine ⟨k + 1, by omega, by go_num, by simp [go_sem, q4, q5], by simp [go_sem, q4, q5], by simp [go_sem, q6], by simp [go_sem, q7], by simp [go_sem, q0], by simp [go_sem, q1], by simp [go_sem, q2], by simp [go_sem, q3], by simpa using z2, ?_⟩
        (repeat (first | with_reducible exact Below.refl _ _ | with_reducible assumption | with_reducible refine balloc ?_ _ | with_reducible refine bdrew ?_ | with_reducible refine below_drewN ?_ _ | with_reducible refine bset ?_ ?_ _ | with_reducible exact Nat.le_refl _ | with_reducible refine bsize ?_ | (dsimp only; refine Nat.le_trans ?_ (Nat.le_add_right _ _)) | with_reducible refine Nat.le_trans ?_ (Nat.le_add_right _ _) | (with_reducible refine bstep ?_ (by assumption))))
      case measure => simp [intOf]; omega
    · have hkl : k = n := by omega
      subst hkl
      go_wp2
      refine bodyPost_ret (v := .agg #[.int .i64 (gP st k).1, .int .i64 (gP st k).2]) (by simp only [results, Try.results61]; go_simp) rfl ⟨rfl, ?_⟩
      (repeat (first | with_reducible exact Below.refl _ _ | with_reducible assumption | with_reducible refine balloc ?_ _ | with_reducible refine bdrew ?_ | with_reducible refine below_drewN ?_ _ | with_reducible refine bset ?_ ?_ _ | with_reducible exact Nat.le_refl _ | with_reducible refine bsize ?_ | (dsimp only; refine Nat.le_trans ?_ (Nat.le_add_right _ _)) | with_reducible refine Nat.le_trans ?_ (Nat.le_add_right _ _) | (with_reducible refine bstep ?_ (by assumption))))

theorem whole_bS (k : Int) (w : World) :
    Calls Try.prog 45 #[.int .i64 k] w fun e w' => e = .returned (.agg #[.int .i64 k, .int .i64 1]) ∧ Below w.heap.size w w' :=
  (whole_is_spec k w).mono fun _ _ ⟨h, h'⟩ => ⟨h, by subst h'; (repeat (first | with_reducible exact Below.refl _ _ | with_reducible assumption | with_reducible refine balloc ?_ _ | with_reducible refine bdrew ?_ | with_reducible refine below_drewN ?_ _ | with_reducible refine bset ?_ ?_ _ | with_reducible exact Nat.le_refl _ | with_reducible refine bsize ?_ | (dsimp only; refine Nat.le_trans ?_ (Nat.le_add_right _ _)) | with_reducible refine Nat.le_trans ?_ (Nat.le_add_right _ _) | (with_reducible refine bstep ?_ (by assumption))))⟩

end Go.Proofs.Ytbhdnocdpincpaa
