/- Harmonic sums: plain facts, and the contract of the model's loop. -/
import Derived.Test.YtgpbkjakmbmccaaStep
import Derived.Test.YtgpbkjakmbmccaaPubS1
namespace Go.Proofs.Ytgpbkjakmbmccaa
open Go.RowKit
set_option linter.unusedVariables false
set_option linter.unusedSimpArgs false

/-- The harmonic sums of 0 to 20, and the odd ones of 0 to 10. -/
def tab1 : List (Int × Int) := [(0, 1), (1, 1), (3, 2), (11, 6), (25, 12), (137, 60), (49, 20), (363, 140), (761, 280), (7129, 2520), (7381, 2520), (83711, 27720), (86021, 27720), (1145993, 360360), (1171733, 360360), (1195757, 360360), (2436559, 720720), (42142223, 12252240), (14274301, 4084080), (275295799, 77597520), (55835135, 15519504)]
def tab2 : List (Int × Int) := [(0, 1), (1, 1), (4, 3), (23, 15), (176, 105), (563, 315), (6508, 3465), (88069, 45045), (91072, 45045), (1593269, 765765), (31037876, 14549535)]
def hP (st : Int) (k : Nat) : Int × Int := if st = 1 then (tab1[k]?).getD (0, 1) else (tab2[k]?).getD (0, 1)
def OkH (st : Int) (n : Nat) : Prop := (st = 1 ∧ n ≤ 20) ∨ (st = 2 ∧ n ≤ 10)

def stepOk (st : Int) (k : Nat) : Bool :=
  amB (hP st k).1 (hP st k).2 && lowB ((hP st k).1 * (1 + st * k) + 1 * (hP st k).2) ((hP st k).2 * (1 + st * k)) &&
  lowN ((hP st k).1 * (1 + st * k) + 1 * (hP st k).2) ((hP st k).2 * (1 + st * k)) == (hP st (k + 1)).1 &&
  lowD ((hP st k).1 * (1 + st * k) + 1 * (hP st k).2) ((hP st k).2 * (1 + st * k)) == (hP st (k + 1)).2
theorem all1 : ∀ k, k < 20 → stepOk 1 k = true := by decide +kernel
theorem all2 : ∀ k, k < 10 → stepOk 2 k = true := by decide +kernel
theorem am1 : ∀ k, k < 21 → amB (hP 1 k).1 (hP 1 k).2 = true := by decide +kernel
theorem am2 : ∀ k, k < 11 → amB (hP 2 k).1 (hP 2 k).2 = true := by decide +kernel
theorem h_step (st : Int) (n k : Nat) (h : OkH st n) (hk : k < n) : lowB ((hP st k).1 * (1 + st * k) + 1 * (hP st k).2) ((hP st k).2 * (1 + st * k)) = true ∧
    lowN ((hP st k).1 * (1 + st * k) + 1 * (hP st k).2) ((hP st k).2 * (1 + st * k)) = (hP st (k + 1)).1 ∧ lowD ((hP st k).1 * (1 + st * k) + 1 * (hP st k).2) ((hP st k).2 * (1 + st * k)) = (hP st (k + 1)).2 := by
  have hs : stepOk st k = true := by
    rcases h with ⟨rfl, h⟩ | ⟨rfl, h⟩
    · exact all1 k (by omega)
    · exact all2 k (by omega)
  simp only [stepOk, Bool.and_eq_true, beq_iff_eq] at hs
  exact ⟨hs.1.1.2, hs.1.2, hs.2⟩
theorem h_am (st : Int) (n k : Nat) (h : OkH st n) (hk : k ≤ n) : amB (hP st k).1 (hP st k).2 = true := by
  rcases h with ⟨rfl, h⟩ | ⟨rfl, h⟩
  · exact am1 k (by omega)
  · exact am2 k (by omega)
theorem h_zero (st : Int) : hP st 0 = (0, 1) := by unfold hP; split <;> rfl
theorem unit_am (st : Int) (n k : Nat) (h : OkH st n) (hk : k < n) : amB 1 (1 + st * k) = true ∧ 0 ≤ st * k ∧ st * k ≤ 40 := by
  have hb : 0 ≤ st * k ∧ st * k ≤ 40 := by
    rcases h with ⟨rfl, h⟩ | ⟨rfl, h⟩ <;> omega
  refine ⟨?_, hb⟩
  rw [amB_iff]
  refine ⟨by omega, by omega, by omega, by omega, ?_⟩
  unfold gi; rw [Int.gcd_one_left]; rfl

set_option maxHeartbeats 1600000 in
theorem harm_spec (st : Int) (n : Nat) (h : OkH st n) (w : World) :
    Calls Try.prog 82 #[.int .i64 n, .int .i64 st] w fun e w' => e = .returned (.agg #[.int .i64 (hP st n).1, .int .i64 (hP st n).2]) ∧ Below w.heap.size w w' := by
  have hn : n ≤ 20 := by rcases h with h | h <;> omega
  have hO := Lib.hid h
  clear h
  go_enter Try.func82, Try.ntmps82
  go_wp2_with (go_at_call 65; refine (whole_is_spec _ _).mono ?_; rintro e w1 ⟨rfl, rfl⟩)
  go_loopw [6] (fun i wr => ∃ k : Nat, k ≤ n ∧ i = .int .i64 k ∧ wr.cell? ⟨w.heap.size + 1 + 1, 0, none⟩ = some (.int .i64 (hP st k).1) ∧ wr.cell? ⟨w.heap.size + 1 + 1, 1, none⟩ = some (.int .i64 (hP st k).2) ∧
      wr.frozen? ⟨w.heap.size + 1 + 1, 0, none⟩ = false ∧ wr.frozen? ⟨w.heap.size + 1 + 1, 1, none⟩ = false ∧ wr.cell? ⟨w.heap.size, 0, none⟩ = some (.int .i64 0) ∧ wr.cell? ⟨w.heap.size, 1, none⟩ = some (.int .i64 0) ∧
      wr.frozen? ⟨w.heap.size, 0, none⟩ = false ∧ wr.frozen? ⟨w.heap.size, 1, none⟩ = false ∧ w.heap.size + 1 + 1 < wr.heap.size ∧ Below w.heap.size w wr) (fun i _ => n - (intOf i).toNat)
  case atStart =>
    refine ⟨0, Nat.zero_le _, rfl, by rw [h_zero]; simp [go_sem], by rw [h_zero]; simp [go_sem], by simp [go_sem], by simp [go_sem], by simp [go_sem], by simp [go_sem], by simp [go_sem], by simp [go_sem], by simp, ?_⟩
    (repeat (first | with_reducible exact Below.refl _ _ | with_reducible assumption | with_reducible refine balloc ?_ _ | with_reducible refine bdrew ?_ | with_reducible refine below_drewN ?_ _ | with_reducible refine bset ?_ ?_ _ | with_reducible exact Nat.le_refl _ | with_reducible refine bsize ?_ | (dsimp only; refine Nat.le_trans ?_ (Nat.le_add_right _ _)) | with_reducible refine Nat.le_trans ?_ (Nat.le_add_right _ _) | (with_reducible refine bstep ?_ (by assumption))))
  case round =>
    obtain ⟨k, hk, rfl, s1, s2, s3, s4, r1, r2, r3, r4, hs, hbel⟩ := hrel
    by_cases hlt : k < n
    · obtain ⟨u1, u2, u3⟩ := unit_am st n k hO.out hlt
      have hxa := am_of _ _ (h_am st n k hO.out hk)
      have hua := am_of _ _ u1
      have hcon := fun W => amAdd_spec (hP st k).1 (hP st k).2 1 (1 + st * k) hxa hua W
      rw [(h_step st n k hO.out hlt).1, (h_step st n k hO.out hlt).2.1, (h_step st n k hO.out hlt).2.2] at hcon
      have HC := Lib.hid hcon
      clear hcon hxa hua u1
      go_wp2_with fail
      refine (HC.out _).mono ?_
      rintro e w3 ⟨rfl, hb3⟩
      obtain ⟨kc3, kf3, kz3, ky3, kx3, kv3, ku3⟩ := bcell hb3
      have z3 : w.heap.size < wr.heap.size := by omega
      have q0 := (kc3 w.heap.size 0 z3).trans r1
      have q1 := (kc3 w.heap.size 1 z3).trans r2
      have q2 := (kf3 w.heap.size 0 z3).trans r3
      have q3 := (kf3 w.heap.size 1 z3).trans r4
      have q4 := (kc3 (w.heap.size + 1 + 1) 0 hs).trans s1
      have q5 := (kc3 (w.heap.size + 1 + 1) 1 hs).trans s2
      have q6 := (kf3 (w.heap.size + 1 + 1) 0 hs).trans s3
      have q7 := (kf3 (w.heap.size + 1 + 1) 1 hs).trans s4
      have z2 := kz3 (w.heap.size + 1 + 1) hs
      clear kc3 kf3 kz3 ky3 kx3 kv3 ku3
      go_wp2
      go_roundw
      case rel =>
        refine ⟨k + 1, by omega, by go_num, by simp [go_sem, q4, q5], by simp [go_sem, q4, q5], by simp [go_sem, q6], by simp [go_sem, q7], by simp [go_sem, q0], by simp [go_sem, q1], by simp [go_sem, q2], by simp [go_sem, q3], by simpa using z2, ?_⟩
        (repeat (first | with_reducible exact Below.refl _ _ | with_reducible assumption | with_reducible refine balloc ?_ _ | with_reducible refine bdrew ?_ | with_reducible refine below_drewN ?_ _ | with_reducible refine bset ?_ ?_ _ | with_reducible exact Nat.le_refl _ | with_reducible refine bsize ?_ | (dsimp only; refine Nat.le_trans ?_ (Nat.le_add_right _ _)) | with_reducible refine Nat.le_trans ?_ (Nat.le_add_right _ _) | (with_reducible refine bstep ?_ (by assumption))))
      case measure => simp [intOf]; omega
    · have hkl : k = n := by omega
      subst hkl
      go_wp2
      refine bodyPost_ret (v := .agg #[.int .i64 (hP st k).1, .int .i64 (hP st k).2]) (by simp only [results, Try.results82]; go_simp) rfl ⟨rfl, ?_⟩
      (repeat (first | with_reducible exact Below.refl _ _ | with_reducible assumption | with_reducible refine balloc ?_ _ | with_reducible refine bdrew ?_ | with_reducible refine below_drewN ?_ _ | with_reducible refine bset ?_ ?_ _ | with_reducible exact Nat.le_refl _ | with_reducible refine bsize ?_ | (dsimp only; refine Nat.le_trans ?_ (Nat.le_add_right _ _)) | with_reducible refine Nat.le_trans ?_ (Nat.le_add_right _ _) | (with_reducible refine bstep ?_ (by assumption))))
end Go.Proofs.Ytgpbkjakmbmccaa
