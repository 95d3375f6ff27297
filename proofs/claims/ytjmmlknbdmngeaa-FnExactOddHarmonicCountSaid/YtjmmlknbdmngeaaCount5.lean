/- Counting harmonic sums: plain facts, and the contract of the model's amCount. -/
import Derived.Test.YtjmmlknbdmngeaaUni5
import Derived.Test.YtjmmlknbdmngeaaCmp
import Derived.Deep.RegionHeld3
import Derived.Deep.DeepCutAuto
namespace Go.Proofs.Ytjmmlknbdmngeaa
open Go.RowKit
set_option linter.unusedVariables false
set_option linter.unusedSimpArgs false

/-- Is the j-th sum no greater than n / d? -/
def leH (st : Int) (j : Nat) (n d : Int) : Bool := decide ((hP st j).1 * d - n * (hP st j).2 ≤ 0)
def cntDown (st n d : Int) : Nat → Nat
  | 0 => 0
  | k + 1 => if leH st (k + 1) n d = true then k + 1 else cntDown st n d k
def geH (st : Int) (j : Nat) (n d : Int) : Bool := decide (0 ≤ (hP st j).1 * d - n * (hP st j).2)

theorem mono1 : ∀ k, k < 20 → (hP 1 k).1 * (hP 1 (k + 1)).2 ≤ (hP 1 (k + 1)).1 * (hP 1 k).2 := by decide +kernel
theorem mono2 : ∀ k, k < 10 → (hP 2 k).1 * (hP 2 (k + 1)).2 ≤ (hP 2 (k + 1)).1 * (hP 2 k).2 := by decide +kernel
theorem leH_down (st : Int) (m k : Nat) (n d : Int) (h : OkH st m) (hk : k < m) (hd : 1 ≤ d) (hle : leH st (k + 1) n d = true) : leH st k n d = true := by
  have hm : (hP st k).1 * (hP st (k + 1)).2 ≤ (hP st (k + 1)).1 * (hP st k).2 := by
    rcases h with ⟨rfl, h⟩ | ⟨rfl, h⟩
    · exact mono1 k (by omega)
    · exact mono2 k (by omega)
  have a := am_of _ _ (h_am st m k h (by omega))
  have b := am_of _ _ (h_am st m (k + 1) h (by omega))
  simp only [leH, decide_eq_true_eq] at hle ⊢
  have e : (hP st (k + 1)).1 * d ≤ n * (hP st (k + 1)).2 := by omega
  have q2 : 0 < (hP st (k + 1)).2 := by have := b.c; omega
  have q1 : 0 ≤ (hP st k).2 := by have := a.c; omega
  have s1 : (hP st k).1 * (hP st (k + 1)).2 * d ≤ (hP st (k + 1)).1 * (hP st k).2 * d := Int.mul_le_mul_of_nonneg_right hm (by omega)
  have s2 : (hP st (k + 1)).1 * d * (hP st k).2 ≤ n * (hP st (k + 1)).2 * (hP st k).2 := Int.mul_le_mul_of_nonneg_right e q1
  have s3 : (hP st k).1 * d * (hP st (k + 1)).2 ≤ n * (hP st k).2 * (hP st (k + 1)).2 := by
    have t1 : (hP st k).1 * (hP st (k + 1)).2 * d = (hP st k).1 * d * (hP st (k + 1)).2 := by ac_rfl
    have t2 : (hP st (k + 1)).1 * (hP st k).2 * d = (hP st (k + 1)).1 * d * (hP st k).2 := by ac_rfl
    have t3 : n * (hP st (k + 1)).2 * (hP st k).2 = n * (hP st k).2 * (hP st (k + 1)).2 := by ac_rfl
    omega
  have := Int.le_of_mul_le_mul_right s3 q2
  omega
theorem leH_all (st : Int) (m k : Nat) (n d : Int) (h : OkH st m) (hk : k ≤ m) (hd : 1 ≤ d) (hle : leH st k n d = true) : ∀ j, j ≤ k → leH st j n d = true := by
  induction k with
  | zero => intro j hj; have : j = 0 := by omega
            subst this; exact hle
  | succ k ih =>
    intro j hj
    by_cases e : j = k + 1
    · subst e; exact hle
    · exact ih (by omega) (leH_down st m k n d h (by omega) hd hle) j (by omega)
theorem cnt_at (st : Int) (m k : Nat) (n d : Int) (h : OkH st m) (hk : k ≤ m) (hd : 1 ≤ d) (hle : k = 0 ∨ leH st k n d = true) (hend : k = m ∨ leH st (k + 1) n d = false) : cntDown st n d m = k := by
  have hup : ∀ j, k < j → j ≤ m → leH st j n d = false := by
    intro j hj hjm
    rcases hend with e | e
    · omega
    · cases hc : leH st j n d
      · rfl
      · have := leH_all st m j n d h hjm hd hc (k + 1) (by omega)
        rw [this] at e; cases e
  clear hend
  induction m with
  | zero => have : k = 0 := by omega
            subst this; rfl
  | succ m ih =>
    by_cases e : k = m + 1
    · subst e
      rcases hle with h0 | h0
      · omega
      · unfold cntDown; rw [if_pos h0]
    · unfold cntDown
      rw [hup (m + 1) (by omega) (by omega)]
      simp only [Bool.false_eq_true, if_false]
      have h' : OkH st m := by
        rcases h with ⟨a, b⟩ | ⟨a, b⟩
        · exact Or.inl ⟨a, by omega⟩
        · exact Or.inr ⟨a, by omega⟩
      exact ih h' (by omega) (fun j hj hjm => hup j hj (by omega))
theorem sg_le (x : Int) : (sgI x ≤ 0) ↔ x ≤ 0 := by unfold sgI; split <;> (try split) <;> omega
theorem sg_lt (x : Int) : (sgI x < 0) ↔ x < 0 := by unfold sgI; split <;> (try split) <;> omega
theorem leH_zero (st n d : Int) (hn : 0 ≤ n) : leH st 0 n d = true := by
  simp only [leH, h_zero]; simp; omega

def cntB (st : Int) (m : Nat) (n d : Int) : Bool := amB n d && geH st m n d
def cntN (st : Int) (m : Nat) (n d : Int) : Int := if cntB st m n d = true then (cntDown st n d m : Int) else 0

set_option maxHeartbeats 1600000 in
theorem count_spec_no (st : Int) (m : Nat) (n d : Int) (h : OkH st m) (ha : amB n d = false) (w : World) :
    Calls Try.prog 56 #[.agg #[.int .i64 n, .int .i64 d], .int .i64 m, .int .i64 st] w fun e w' => e = .returned (.tuple #[.int .i64 0, .bool false]) ∧ Below w.heap.size w w' := by
  have hO := Lib.hid h
  clear h
  go_enter Try.func56, Try.ntmps56
  go_wp2_with fail
  first | (go_region_with (go_at_call 97; refine (good_spec _ _ _).mono ?_; rintro e w1 ⟨rfl, hb1⟩; rw [ha]; obtain ⟨kc1, kf1, kz1, ky1, kx1, kv1, ku1⟩ := bcell hb1)) | fail
  all_goals go_wp2
  all_goals go_ret2
  all_goals refine ⟨rfl, ?_⟩
  all_goals (repeat (first | with_reducible exact Below.refl _ _ | with_reducible assumption | with_reducible refine balloc ?_ _ | with_reducible refine bdrew ?_ | with_reducible refine below_drewN ?_ _ | with_reducible refine bset ?_ ?_ _ | with_reducible exact Nat.le_refl _ | with_reducible refine bsize ?_ | (dsimp only; refine Nat.le_trans ?_ (Nat.le_add_right _ _)) | with_reducible refine Nat.le_trans ?_ (Nat.le_add_right _ _) | (with_reducible refine bstep ?_ (by assumption))))

set_option maxHeartbeats 1600000 in
theorem count_spec_less (st : Int) (m : Nat) (n d : Int) (h : OkH st m) (ha : amB n d = true) (hg : geH st m n d = false) (w : World) :
    Calls Try.prog 56 #[.agg #[.int .i64 n, .int .i64 d], .int .i64 m, .int .i64 st] w fun e w' => e = .returned (.tuple #[.int .i64 0, .bool false]) ∧ Below w.heap.size w w' := by
  have hx := am_of _ _ (h_am st m m h (Nat.le_refl _))
  have hy := am_of _ _ ha
  have hl : sgI ((hP st m).1 * d - n * (hP st m).2) < 0 := by rw [sg_lt]; simp [geH] at hg; omega
  have hO := Lib.hid h
  clear h hg
  go_enter Try.func56, Try.ntmps56
  go_wp2_with fail
  go_region_held3 (fun w' => w'.cell? ⟨w.heap.size, 0, none⟩ = some (.int .i64 n) ∧ w'.cell? ⟨w.heap.size, 1, none⟩ = some (.int .i64 d) ∧ w.heap.size < w'.heap.size) (((go_split_ands; (repeat' apply And.intro) <;> first | assumption | (simp [go_sem]; done) | go_keep))) (first | (go_at_call 97; refine (good_spec _ _ _).mono ?_; rintro e w1 ⟨rfl, hb⟩; rw [ha]; go_split_ands; (have f1 := (hb.cell (p := ⟨w.heap.size, 0, none⟩) (by assumption)).trans (by assumption)); (have f2 := (hb.cell (p := ⟨w.heap.size, 1, none⟩) (by assumption)).trans (by assumption)); (have f3 := Nat.lt_of_lt_of_le (by assumption) hb.size)) | (go_at_call 53; refine (harm_spec st m hO.out _).mono ?_; rintro e w2 ⟨rfl, hb⟩; go_split_ands; (have f1 := (hb.cell (p := ⟨w.heap.size, 0, none⟩) (by assumption)).trans (by assumption)); (have f2 := (hb.cell (p := ⟨w.heap.size, 1, none⟩) (by assumption)).trans (by assumption)); (have f3 := Nat.lt_of_lt_of_le (by assumption) hb.size)) | (go_at_call 78; refine (cmp_spec _ _ _ _ hx hy _).mono ?_; rintro e w3 ⟨rfl, hb⟩; go_split_ands; (have f1 := (hb.cell (p := ⟨w.heap.size, 0, none⟩) (by assumption)).trans (by assumption)); (have f2 := (hb.cell (p := ⟨w.heap.size, 1, none⟩) (by assumption)).trans (by assumption)); (have f3 := Nat.lt_of_lt_of_le (by assumption) hb.size)))
  all_goals go_wp2
  all_goals go_ret2
  all_goals refine ⟨rfl, ?_⟩
  all_goals (repeat (first | with_reducible exact Below.refl _ _ | with_reducible assumption | with_reducible refine balloc ?_ _ | with_reducible refine bdrew ?_ | with_reducible refine below_drewN ?_ _ | with_reducible refine bset ?_ ?_ _ | with_reducible exact Nat.le_refl _ | with_reducible refine bsize ?_ | (dsimp only; refine Nat.le_trans ?_ (Nat.le_add_right _ _)) | with_reducible refine Nat.le_trans ?_ (Nat.le_add_right _ _) | (with_reducible refine bstep ?_ (by assumption))))
end Go.Proofs.Ytjmmlknbdmngeaa
