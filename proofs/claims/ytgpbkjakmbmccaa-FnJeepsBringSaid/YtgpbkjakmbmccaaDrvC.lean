/- Contracts of DrivenOut, on both sides. -/
import Derived.Test.YtgpbkjakmbmccaaCarD
import Derived.Test.YtgpbkjakmbmccaaDepS
import Derived.Test.YtgpbkjakmbmccaaPubS2
import Derived.Test.YtgpbkjakmbmccaaPubS3
import Derived.Deep.RegionWith
namespace Go.Proofs.Ytgpbkjakmbmccaa
open Go.ChangeShapes Go.WideShapes Go.ChangeAt Go.RowKit Go.Joins
set_option maxRecDepth 100000
set_option linter.unusedVariables false
set_option linter.unusedSimpArgs false

def drOk (t m : Nat) : Bool :=
  amB (atP 1 t (m + 1)).1 (atP 1 t (m + 1)).2 && amB (atP 1 t m).1 (atP 1 t m).2 &&
  lowB ((atP 1 t (m + 1)).1 * (atP 1 t m).2 - (atP 1 t m).1 * (atP 1 t (m + 1)).2) ((atP 1 t (m + 1)).2 * (atP 1 t m).2) &&
  lowN ((atP 1 t (m + 1)).1 * (atP 1 t m).2 - (atP 1 t m).1 * (atP 1 t (m + 1)).2) ((atP 1 t (m + 1)).2 * (atP 1 t m).2) == 1 &&
  lowD ((atP 1 t (m + 1)).1 * (atP 1 t m).2 - (atP 1 t m).1 * (atP 1 t (m + 1)).2) ((atP 1 t (m + 1)).2 * (atP 1 t m).2) == drv 1 (t - 1 - m)
theorem dr_all : ∀ t, t < 11 → ∀ m, m < t - 1 → drOk t m = true := by decide +kernel
theorem dr_less (t m : Nat) (ht : t < 11) (hm : m + 1 < t) (W : World) :
    Calls Try.prog 66 #[.agg #[.int .i64 (atP 1 t (m + 1)).1, .int .i64 (atP 1 t (m + 1)).2], .agg #[.int .i64 (atP 1 t m).1, .int .i64 (atP 1 t m).2]] W fun e w' => e = .returned (.tuple #[.agg #[.int .i64 1, .int .i64 (drv 1 (t - 1 - m))], .bool true]) ∧ Below W.heap.size W w' := by
  have hs := dr_all t ht m (by omega)
  simp only [drOk, Bool.and_eq_true, beq_iff_eq] at hs
  obtain ⟨⟨⟨⟨a1, a2⟩, s1⟩, s2⟩, s3⟩ := hs
  have hc := amLess_spec _ _ _ _ (am_of _ _ a1) (am_of _ _ a2) W
  rw [s1, s2, s3] at hc
  exact hc
theorem dt_all : ∀ k : Nat, k < 12 → (amB 1 (2 * (k : Int) + 1) && amB (2 * (k : Int) + 1) 1 && lowB (1 * (2 * (k : Int) + 1)) ((2 * (k : Int) + 1) * 1) && lowN (1 * (2 * (k : Int) + 1)) ((2 * (k : Int) + 1) * 1) == 1 && lowD (1 * (2 * (k : Int) + 1)) ((2 * (k : Int) + 1) * 1) == 1) = true := by decide +kernel
theorem dr_times (k : Nat) (hk : k < 12) (W : World) :
    Calls Try.prog 67 #[.agg #[.int .i64 1, .int .i64 (2 * (k : Int) + 1)], .agg #[.int .i64 (2 * ((k : Int) + 1) - 1), .int .i64 1]] W fun e w' => e = .returned (.tuple #[.agg #[.int .i64 1, .int .i64 1], .bool true]) ∧ Below W.heap.size W w' := by
  rw [show 2 * ((k : Int) + 1) - 1 = 2 * (k : Int) + 1 by omega]
  have hs := dt_all k hk
  simp only [Bool.and_eq_true, beq_iff_eq] at hs
  obtain ⟨⟨⟨⟨a1, a2⟩, s1⟩, s2⟩, s3⟩ := hs
  have hc := amTimes_spec _ _ _ _ (am_of _ _ a1) (am_of _ _ a2) W
  rw [s1, s2, s3] at hc
  exact hc
theorem da_all : ∀ i : Nat, i < 12 → (amB (i : Int) 1 && lowB ((i : Int) * 1 + 1 * 1) (1 * 1) && lowN ((i : Int) * 1 + 1 * 1) (1 * 1) == (i : Int) + 1 && lowD ((i : Int) * 1 + 1 * 1) (1 * 1) == 1) = true := by decide +kernel
theorem dr_add (i : Nat) (hi : i < 12) (W : World) :
    Calls Try.prog 68 #[.agg #[.int .i64 i, .int .i64 1], .agg #[.int .i64 1, .int .i64 1]] W fun e w' => e = .returned (.tuple #[.agg #[.int .i64 ((i : Int) + 1), .int .i64 1], .bool true]) ∧ Below W.heap.size W w' := by
  have hs := da_all i hi
  simp only [Bool.and_eq_true, beq_iff_eq] at hs
  obtain ⟨⟨⟨a1, s1⟩, s2⟩, s3⟩ := hs
  have hc := amAdd_spec _ _ _ _ (am_of _ _ a1) (am_of 1 1 (by decide +kernel)) W
  rw [s1, s2, s3] at hc
  exact hc
def dvN (t : Int) : Int := if tkOk t = true then t else 0
def dvD (t : Int) : Int := if tkOk t = true then 1 else 0
theorem drivenOut_impl (t : Int) (w : World) :
    Calls Try.prog 22 #[.int .i64 t] w fun e w' => e = .returned (.tuple #[.agg #[.int .i64 (dvN t), .int .i64 (dvD t)], .bool (tkOk t)]) ∧ Below w.heap.size w w' := by
  unfold dvN dvD
  cases h : tkOk t
  · rw [if_neg (by simp), if_neg (by simp)]
    go_enter Try.func22, Try.ntmps22
    go_wp2_with (go_at_call 49; refine (in_impl _ _ _ _).mono ?_; rintro e w1 ⟨rfl, rfl⟩; rw [show inB t 0 10 = false from h])
    refine bodyPost_ret (v := .tuple #[.agg #[.int .i64 0, .int .i64 0], .bool false]) (by simp only [results, Try.results22]; go_simp) rfl ⟨rfl, ?_⟩
    (repeat (first | with_reducible exact Below.refl _ _ | with_reducible assumption | with_reducible refine balloc ?_ _ | with_reducible refine bdrew ?_ | with_reducible refine below_drewN ?_ _ | with_reducible refine bset ?_ ?_ _ | with_reducible exact Nat.le_refl _ | with_reducible refine bsize ?_ | (dsimp only; refine Nat.le_trans ?_ (Nat.le_add_right _ _)) | with_reducible refine Nat.le_trans ?_ (Nat.le_add_right _ _) | (with_reducible refine bstep ?_ (by assumption))))
  · rw [if_pos rfl, if_pos rfl]
    go_enter Try.func22, Try.ntmps22
    go_wp2_with (first | (go_at_call 49; refine (in_impl _ _ _ _).mono ?_; rintro e w1 ⟨rfl, rfl⟩; rw [show inB t 0 10 = true from h]) | (go_at_call 52; refine (whole_is_impl _ _).mono ?_; rintro e w1 ⟨rfl, rfl⟩))
    refine bodyPost_ret (v := .tuple #[.agg #[.int .i64 t, .int .i64 1], .bool true]) (by simp only [results, Try.results22]; go_simp) rfl ⟨rfl, ?_⟩
    (repeat (first | with_reducible exact Below.refl _ _ | with_reducible assumption | with_reducible refine balloc ?_ _ | with_reducible refine bdrew ?_ | with_reducible refine below_drewN ?_ _ | with_reducible refine bset ?_ ?_ _ | with_reducible exact Nat.le_refl _ | with_reducible refine bsize ?_ | (dsimp only; refine Nat.le_trans ?_ (Nat.le_add_right _ _)) | with_reducible refine Nat.le_trans ?_ (Nat.le_add_right _ _) | (with_reducible refine bstep ?_ (by assumption))))
theorem drivenS_no (t : Int) (h : tkOk t = false) (w : World) :
    Calls Try.prog 23 #[.int .i64 t] w fun e w' => e = .returned (.tuple #[.agg #[.int .i64 0, .int .i64 0], .bool false]) ∧ Below w.heap.size w w' := by
  go_enter Try.func23, Try.ntmps23
  go_wp2_with (go_at_call 60; refine (jeTanks_spec _ _).mono ?_; rintro e w1 ⟨rfl, rfl⟩; rw [h])
  refine bodyPost_ret (v := .tuple #[.agg #[.int .i64 0, .int .i64 0], .bool false]) (by simp only [results, Try.results23]; go_simp) rfl ⟨rfl, ?_⟩
  (repeat (first | with_reducible exact Below.refl _ _ | with_reducible assumption | with_reducible refine balloc ?_ _ | with_reducible refine bdrew ?_ | with_reducible refine below_drewN ?_ _ | with_reducible refine bset ?_ ?_ _ | with_reducible exact Nat.le_refl _ | with_reducible refine bsize ?_ | (dsimp only; refine Nat.le_trans ?_ (Nat.le_add_right _ _)) | with_reducible refine Nat.le_trans ?_ (Nat.le_add_right _ _) | (with_reducible refine bstep ?_ (by assumption))))
set_option maxHeartbeats 3200000 in
theorem drivenS_yes (t : Nat) (ht : t ≤ 10) (w : World) :
    Calls Try.prog 23 #[.int .i64 t] w fun e w' => e = .returned (.tuple #[.agg #[.int .i64 t, .int .i64 1], .bool true]) ∧ Below w.heap.size w w' := by
  have h : tkOk t = true := by unfold tkOk inB; simp; omega
  go_enter Try.func23, Try.ntmps23
  go_wp2_with (first | (go_at_call 60; refine (jeTanks_spec _ _).mono ?_; rintro e w1 ⟨rfl, rfl⟩; rw [h]) | (go_at_call 65; refine (whole_is_spec _ _).mono ?_; rintro e w1 ⟨rfl, rfl⟩) | (go_at_call 61; refine (jeDep_1 t ht _).mono ?_; rintro e w1 ⟨v, rfl, hown, hb1⟩; obtain ⟨a, c, rfl⟩ := owns_shape hown))
  have hb1' := bcell hb1
  obtain ⟨kc1, kf1, kz1, ky1, kx1, kv1, ku1⟩ := hb1'
  have bel1 : Below w.heap.size w w1 := by (repeat (first | with_reducible exact Below.refl _ _ | with_reducible assumption | with_reducible refine balloc ?_ _ | with_reducible refine bdrew ?_ | with_reducible refine below_drewN ?_ _ | with_reducible refine bset ?_ ?_ _ | with_reducible exact Nat.le_refl _ | with_reducible refine bsize ?_ | (dsimp only; refine Nat.le_trans ?_ (Nat.le_add_right _ _)) | with_reducible refine Nat.le_trans ?_ (Nat.le_add_right _ _) | (with_reducible refine bstep ?_ (by assumption))))
  have r0 : w1.cell? ⟨w.heap.size, 0, none⟩ = some (.int .i64 0) := by rw [kc1 _ _ (by simp)]; simp [go_sem]
  have rf0 : w1.frozen? ⟨w.heap.size, 0, none⟩ = false := by rw [kf1 _ _ (by simp)]; simp [go_sem]
  have r1 : w1.cell? ⟨w.heap.size, 1, none⟩ = some (.int .i64 0) := by rw [kc1 _ _ (by simp)]; simp [go_sem]
  have rf1 : w1.frozen? ⟨w.heap.size, 1, none⟩ = false := by rw [kf1 _ _ (by simp)]; simp [go_sem]
  have s0 : w1.cell? ⟨w.heap.size + 1 + 1, 0, none⟩ = some (.int .i64 0) := by rw [kc1 _ _ (by simp)]; simp [go_sem]
  have sf0 : w1.frozen? ⟨w.heap.size + 1 + 1, 0, none⟩ = false := by rw [kf1 _ _ (by simp)]; simp [go_sem]
  have s1 : w1.cell? ⟨w.heap.size + 1 + 1, 1, none⟩ = some (.int .i64 1) := by rw [kc1 _ _ (by simp)]; simp [go_sem]
  have sf1 : w1.frozen? ⟨w.heap.size + 1 + 1, 1, none⟩ = false := by rw [kf1 _ _ (by simp)]; simp [go_sem]
  have a0 : w1.cell? ⟨w.heap.size + 1 + 1 + 1 + 1, 0, none⟩ = some (.int .i64 0) := by rw [kc1 _ _ (by simp)]; simp [go_sem]
  have af0 : w1.frozen? ⟨w.heap.size + 1 + 1 + 1 + 1, 0, none⟩ = false := by rw [kf1 _ _ (by simp)]; simp [go_sem]
  have a1 : w1.cell? ⟨w.heap.size + 1 + 1 + 1 + 1, 1, none⟩ = some (.int .i64 1) := by rw [kc1 _ _ (by simp)]; simp [go_sem]
  have af1 : w1.frozen? ⟨w.heap.size + 1 + 1 + 1 + 1, 1, none⟩ = false := by rw [kf1 _ _ (by simp)]; simp [go_sem]
  have za : w.heap.size + 1 + 1 + 1 + 1 < w1.heap.size := kz1 _ (by simp)
  have hown1 : w1.ownsRow (w.heap.size + 1 + 1 + 1 + 1 + 1) 41 4 (.slice a (t - 1) c) (t - 1) (cellsG fDepot (dpP 1 t (t - 1))) := own_mono hown (by simp)
  clear kc1 kf1 kz1 ky1 kx1 kv1 ku1 hb1 hown h
  go_loopw [20] (fun u wr => ∃ i : Nat, i ≤ t - 1 ∧ u = .int .i64 i ∧ wr.ownsRow (w.heap.size + 1 + 1 + 1 + 1 + 1) 41 4 (.slice a (t - 1) c) (t - 1) (cellsG fDepot (dpP 1 t (t - 1))) ∧ wr.cell? ⟨w.heap.size, 0, none⟩ = some (.int .i64 0) ∧ wr.cell? ⟨w.heap.size, 1, none⟩ = some (.int .i64 0) ∧ wr.cell? ⟨w.heap.size + 1 + 1, 0, none⟩ = some (.int .i64 i) ∧ wr.cell? ⟨w.heap.size + 1 + 1, 1, none⟩ = some (.int .i64 1) ∧ wr.cell? ⟨w.heap.size + 1 + 1 + 1 + 1, 0, none⟩ = some (.int .i64 (atP 1 t i).1) ∧ wr.cell? ⟨w.heap.size + 1 + 1 + 1 + 1, 1, none⟩ = some (.int .i64 (atP 1 t i).2) ∧ wr.frozen? ⟨w.heap.size, 0, none⟩ = false ∧ wr.frozen? ⟨w.heap.size, 1, none⟩ = false ∧ wr.frozen? ⟨w.heap.size + 1 + 1, 0, none⟩ = false ∧ wr.frozen? ⟨w.heap.size + 1 + 1, 1, none⟩ = false ∧ wr.frozen? ⟨w.heap.size + 1 + 1 + 1 + 1, 0, none⟩ = false ∧ wr.frozen? ⟨w.heap.size + 1 + 1 + 1 + 1, 1, none⟩ = false ∧ w.heap.size + 1 + 1 + 1 + 1 < wr.heap.size ∧ Below w.heap.size w wr) (fun u _ => t - 1 - (intOf u).toNat)
  case atStart => exact ⟨0, Nat.zero_le _, rfl, hown1, r0, r1, s0, s1, by rw [at_zero]; exact a0, by rw [at_zero]; exact a1, rf0, rf1, sf0, sf1, af0, af1, za, bel1⟩
  case round =>
    clear r0 r1 s0 s1 a0 a1 rf0 rf1 sf0 sf1 af0 af1 za bel1 hown1
    obtain ⟨i, hit, rfl, hown, r0, r1, s0, s1, a0, a1, rf0, rf1, sf0, sf1, af0, af1, za, hbel⟩ := hrel
    have zr : w.heap.size < wr.heap.size := by omega
    have zs : w.heap.size + 1 + 1 < wr.heap.size := by omega
    by_cases hlt : i < t - 1
    · obtain ⟨k, hk⟩ : ∃ k : Nat, k + i + 1 = t := ⟨t - 1 - i, by omega⟩
      have hk2 : k ≤ 9 := by omega
      have hi20 : i ≤ 20 := by omega
      obtain ⟨g, rfl⟩ : ∃ g, a = some ⟨g, 0, none⟩ := by
        rcases hown.2 with ⟨_, h0⟩ | ⟨g, cap, cur, hv, _⟩
        · omega
        · injection hv with h1 _ _; exact ⟨g, h1⟩
      have hL : LiesG 4 fDepot wr ⟨g, 0, none⟩ c (dpP 1 t (t - 1)) := liesG_own (l := dpP 1 t (t - 1)) fDepot_len (by rw [dpP_len]; exact hown) (dpP_bd t ht)
      have hlc := hL.hlc
      rw [dpP_len] at hlc
      have hcap := hL.hcap
      have hpa := dpP_at 1 t i hlt
      rw [show t - 1 - i = k by omega] at hpa
      have c0 := hL.hcell i _ hpa 0 _ rfl
      have c1 := hL.hcell i _ hpa 1 _ rfl
      have c2 := hL.hcell i _ hpa 2 _ rfl
      have c3 := hL.hcell i _ hpa 3 _ rfl
      rw [Addr.add_lit, Nat.zero_add] at c0 c1 c2 c3
      rw [Nat.add_zero] at c0
      simp only [fuP, if_true] at c2 c3
      have hcon := fun W => dr_less t i (by omega) (by omega) W
      rw [show t - 1 - i = k by omega, show drv 1 k = 2 * (k : Int) + 1 from rfl] at hcon
      have hct := fun W => dr_times k (by omega) W
      have hca := fun W => dr_add i (by omega) W
      generalize hX : (atP 1 t (i + 1)).1 = X at *
      generalize hY : (atP 1 t (i + 1)).2 = Y at *
      generalize (atP 1 t i).1 = x at *
      generalize (atP 1 t i).2 = y at *
      have hgr : g < wr.heap.size := cell_lt c0
      have HC := Lib.hid hcon
      have HT := Lib.hid hct
      have HA := Lib.hid hca
      have HX := Lib.hid hX
      have HY := Lib.hid hY
      have nes : (Value.slice (some ⟨g, 0, none⟩) (t - 1) c).ownBlock ≠ some (w.heap.size + 1 + 1) := own_ne hown (by omega)
      have nea : (Value.slice (some ⟨g, 0, none⟩) (t - 1) c).ownBlock ≠ some (w.heap.size + 1 + 1 + 1 + 1) := own_ne hown (by omega)
      clear hcon hct hca hX hY hpa hL hk
      go_wp2_with fail
      refine (HC.out _).mono ?_
      rintro e w3 ⟨rfl, hb3⟩
      have own3 : w3.ownsRow (w.heap.size + 1 + 1 + 1 + 1 + 1) 41 4 (.slice (some ⟨g, 0, none⟩) (t - 1) c) (t - 1) (cellsG fDepot (dpP 1 t (t - 1))) := by (repeat (first | with_reducible assumption | with_reducible refine own_alloc ?_ _ | with_reducible refine own_drew ?_ | with_reducible refine own_set ?_ ?_ _ | with_reducible refine ownsRow_below ?_ (by assumption)))
      obtain ⟨kc3, kf3, kz3, ky3, kx3, kv3, ku3⟩ := bcell hb3
      have b0 : w3.cell? ⟨wr.heap.size, 0, none⟩ = some (.int .i64 X) := by rw [kc3 _ _ (by simp)]; simp [go_sem]
      have b1 : w3.cell? ⟨wr.heap.size, 1, none⟩ = some (.int .i64 Y) := by rw [kc3 _ _ (by simp)]; simp [go_sem]
      have b2 : w3.cell? ⟨wr.heap.size, 2, none⟩ = some (.int .i64 k) := by rw [kc3 _ _ (by simp)]; simp [go_sem]
      have b3 : w3.cell? ⟨wr.heap.size, 3, none⟩ = some (.int .i64 1) := by rw [kc3 _ _ (by simp)]; simp [go_sem]
      have zb : wr.heap.size < w3.heap.size := kz3 _ (by simp)
      have hBX : Below wr.heap.size wr w3 := by (repeat (first | with_reducible exact Below.refl _ _ | with_reducible assumption | with_reducible refine balloc ?_ _ | with_reducible refine bdrew ?_ | with_reducible refine below_drewN ?_ _ | with_reducible refine bset ?_ ?_ _ | with_reducible exact Nat.le_refl _ | with_reducible refine bsize ?_ | (dsimp only; refine Nat.le_trans ?_ (Nat.le_add_right _ _)) | with_reducible refine Nat.le_trans ?_ (Nat.le_add_right _ _) | (with_reducible refine bstep ?_ (by assumption))))
      have bel3 : Below w.heap.size w w3 := bstep hbel hBX
      have nbs : wr.heap.size ≠ w.heap.size + 1 + 1 := by omega
      have nba : wr.heap.size ≠ w.heap.size + 1 + 1 + 1 + 1 := by omega
      have nbr : wr.heap.size ≠ w.heap.size := by omega
      clear kc3 kf3 kz3 ky3 kx3 kv3 ku3 c0 c1 c2 c3 hown hbel hgr
      replace r0 := keepa (W0 := wr) (wp := w3) hBX zr r0
      replace r1 := keepa (W0 := wr) (wp := w3) hBX zr r1
      replace rf0 := keepf (W0 := wr) (wp := w3) hBX zr rf0
      replace rf1 := keepf (W0 := wr) (wp := w3) hBX zr rf1
      replace s0 := keepa (W0 := wr) (wp := w3) hBX zs s0
      replace s1 := keepa (W0 := wr) (wp := w3) hBX zs s1
      replace sf0 := keepf (W0 := wr) (wp := w3) hBX zs sf0
      replace sf1 := keepf (W0 := wr) (wp := w3) hBX zs sf1
      replace a0 := keepa (W0 := wr) (wp := w3) hBX za a0
      replace a1 := keepa (W0 := wr) (wp := w3) hBX za a1
      replace af0 := keepf (W0 := wr) (wp := w3) hBX za af0
      replace af1 := keepf (W0 := wr) (wp := w3) hBX za af1
      replace zr : w.heap.size < w3.heap.size := Nat.lt_of_lt_of_le zr (bsize (a := wr) hBX)
      replace zs : w.heap.size + 1 + 1 < w3.heap.size := Nat.lt_of_lt_of_le zs (bsize (a := wr) hBX)
      replace za : w.heap.size + 1 + 1 + 1 + 1 < w3.heap.size := Nat.lt_of_lt_of_le za (bsize (a := wr) hBX)
      clear hb3 hBX
      go_upto_region 10 with fail
      have nt3 : (Value.slice (some ⟨g, 0, none⟩) (t - 1) c).ownBlock ≠ some w3.heap.size := fun e => by have := (own3.lt _ e).2; omega
      go_region_with (first | (go_at_call 65; refine (whole_is_spec _ _).mono ?_; rintro e w4 ⟨rfl, rfl⟩) | (go_at_call 67; refine (HT.out _).mono ?_; rintro e w4 ⟨rfl, hb4⟩; (have t0 : w4.cell? ⟨w3.heap.size, 0, none⟩ = some (.int .i64 1) := keepa hb4 (by simp) (by simp [go_sem])); (have t1 : w4.cell? ⟨w3.heap.size, 1, none⟩ = some (.int .i64 (2 * (k : Int) + 1)) := keepa hb4 (by simp) (by simp [go_sem])); (have t2 : w4.frozen? ⟨w3.heap.size, 0, none⟩ = false := keepf hb4 (by simp) (by simp [go_sem])); (have t3 : w4.frozen? ⟨w3.heap.size, 1, none⟩ = false := keepf hb4 (by simp) (by simp [go_sem])); (have zt : w3.heap.size < w4.heap.size := Nat.lt_of_lt_of_le (by simp) hb4.size)))
      all_goals
        have hBX : Below w3.heap.size w3 w4 := by (repeat (first | with_reducible exact Below.refl _ _ | with_reducible assumption | with_reducible refine balloc ?_ _ | with_reducible refine bdrew ?_ | with_reducible refine below_drewN ?_ _ | with_reducible refine bset ?_ ?_ _ | with_reducible exact Nat.le_refl _ | with_reducible refine bsize ?_ | (dsimp only; refine Nat.le_trans ?_ (Nat.le_add_right _ _)) | with_reducible refine Nat.le_trans ?_ (Nat.le_add_right _ _) | (with_reducible refine bstep ?_ (by assumption))))
        have own4 : w4.ownsRow (w.heap.size + 1 + 1 + 1 + 1 + 1) 41 4 (.slice (some ⟨g, 0, none⟩) (t - 1) c) (t - 1) (cellsG fDepot (dpP 1 t (t - 1))) := by (repeat (first | with_reducible assumption | with_reducible refine own_alloc ?_ _ | with_reducible refine own_drew ?_ | with_reducible refine own_set ?_ ?_ _ | with_reducible refine ownsRow_below ?_ (by assumption)))
        have bel4 : Below w.heap.size w w4 := bstep bel3 hBX
        have nts : w3.heap.size ≠ w.heap.size + 1 + 1 := by omega
        have nta : w3.heap.size ≠ w.heap.size + 1 + 1 + 1 + 1 := by omega
        have ntr : w3.heap.size ≠ w.heap.size := by omega
        have ntb : w3.heap.size ≠ wr.heap.size := by omega
        have wt3 : w.heap.size ≤ w3.heap.size := by omega
        replace r0 := keepa (W0 := w3) (wp := w4) hBX zr r0
        replace r1 := keepa (W0 := w3) (wp := w4) hBX zr r1
        replace rf0 := keepf (W0 := w3) (wp := w4) hBX zr rf0
        replace rf1 := keepf (W0 := w3) (wp := w4) hBX zr rf1
        replace s0 := keepa (W0 := w3) (wp := w4) hBX zs s0
        replace s1 := keepa (W0 := w3) (wp := w4) hBX zs s1
        replace sf0 := keepf (W0 := w3) (wp := w4) hBX zs sf0
        replace sf1 := keepf (W0 := w3) (wp := w4) hBX zs sf1
        replace a0 := keepa (W0 := w3) (wp := w4) hBX za a0
        replace a1 := keepa (W0 := w3) (wp := w4) hBX za a1
        replace af0 := keepf (W0 := w3) (wp := w4) hBX za af0
        replace af1 := keepf (W0 := w3) (wp := w4) hBX za af1
        replace b0 := keepa (W0 := w3) (wp := w4) hBX zb b0
        replace b1 := keepa (W0 := w3) (wp := w4) hBX zb b1
        replace zr : w.heap.size < w4.heap.size := Nat.lt_of_lt_of_le zr (bsize (a := w3) hBX)
        replace zs : w.heap.size + 1 + 1 < w4.heap.size := Nat.lt_of_lt_of_le zs (bsize (a := w3) hBX)
        replace za : w.heap.size + 1 + 1 + 1 + 1 < w4.heap.size := Nat.lt_of_lt_of_le za (bsize (a := w3) hBX)
        replace zb : wr.heap.size < w4.heap.size := Nat.lt_of_lt_of_le zb (bsize (a := w3) hBX)
        clear hBX hb4 own3 bel3
        go_wp2_with fail
        refine (HA.out _).mono ?_
        rintro e w5 ⟨rfl, hb5⟩
        have hsz5 := hb5.size
        have mts : w.heap.size + 1 + 1 ≠ w3.heap.size := Ne.symm nts
        have mta : w.heap.size + 1 + 1 + 1 + 1 ≠ w3.heap.size := Ne.symm nta
        have mtr : w.heap.size ≠ w3.heap.size := Ne.symm ntr
        have mtb : wr.heap.size ≠ w3.heap.size := Ne.symm ntb
        replace r0 := keepa (wp := w5) hb5 (by simpa using zr) (by simpa [go_sem, nts, nta, ntr, ntb, mts, mta, mtr, mtb] using r0)
        replace rf0 := keepf (wp := w5) hb5 (by simpa using zr) (by simpa [go_sem, nts, nta, ntr, ntb, mts, mta, mtr, mtb] using rf0)
        replace r1 := keepa (wp := w5) hb5 (by simpa using zr) (by simpa [go_sem, nts, nta, ntr, ntb, mts, mta, mtr, mtb] using r1)
        replace rf1 := keepf (wp := w5) hb5 (by simpa using zr) (by simpa [go_sem, nts, nta, ntr, ntb, mts, mta, mtr, mtb] using rf1)
        replace s0 := keepa (wp := w5) hb5 (by simpa using zs) (by simpa [go_sem, nts, nta, ntr, ntb, mts, mta, mtr, mtb] using s0)
        replace sf0 := keepf (wp := w5) hb5 (by simpa using zs) (by simpa [go_sem, nts, nta, ntr, ntb, mts, mta, mtr, mtb] using sf0)
        replace s1 := keepa (wp := w5) hb5 (by simpa using zs) (by simpa [go_sem, nts, nta, ntr, ntb, mts, mta, mtr, mtb] using s1)
        replace sf1 := keepf (wp := w5) hb5 (by simpa using zs) (by simpa [go_sem, nts, nta, ntr, ntb, mts, mta, mtr, mtb] using sf1)
        replace a0 := keepa (wp := w5) hb5 (by simpa using za) (by simpa [go_sem, nts, nta, ntr, ntb, mts, mta, mtr, mtb] using a0)
        replace af0 := keepf (wp := w5) hb5 (by simpa using za) (by simpa [go_sem, nts, nta, ntr, ntb, mts, mta, mtr, mtb] using af0)
        replace a1 := keepa (wp := w5) hb5 (by simpa using za) (by simpa [go_sem, nts, nta, ntr, ntb, mts, mta, mtr, mtb] using a1)
        replace af1 := keepf (wp := w5) hb5 (by simpa using za) (by simpa [go_sem, nts, nta, ntr, ntb, mts, mta, mtr, mtb] using af1)
        replace b0 := keepa (wp := w5) hb5 (by simpa using zb) (by simpa [go_sem, nts, nta, ntr, ntb, mts, mta, mtr, mtb] using b0)
        replace b1 := keepa (wp := w5) hb5 (by simpa using zb) (by simpa [go_sem, nts, nta, ntr, ntb, mts, mta, mtr, mtb] using b1)
        replace zr : w.heap.size < w5.heap.size := by simp at hsz5; omega
        replace zs : w.heap.size + 1 + 1 < w5.heap.size := by simp at hsz5; omega
        replace za : w.heap.size + 1 + 1 + 1 + 1 < w5.heap.size := by simp at hsz5; omega
        replace zb : wr.heap.size < w5.heap.size := by simp at hsz5; omega
        have own5 : w5.ownsRow (w.heap.size + 1 + 1 + 1 + 1 + 1) 41 4 (.slice (some ⟨g, 0, none⟩) (t - 1) c) (t - 1) (cellsG fDepot (dpP 1 t (t - 1))) := by
          refine ownsRow_below ?_ hb5
          exact own_set (own_set own4 nt3 _) nt3 _
        have bel5 : Below w.heap.size w w5 := by
          refine bstep ?_ hb5
          exact bset (bset bel4 wt3 _) wt3 _
        clear hb5 hsz5 own4 bel4 nts nta ntr ntb mts mta mtr mtb t0 t1 t2 t3 zt nt3 wt3
        go_wp2
        go_roundw
        case rel =>
          refine ⟨i + 1, by omega, by go_num, ?_, ?_⟩
          · exact own_set (own_set (own_set (own_set own5 nes _) nes _) nea _) nea _
          refine ⟨by simp [go_sem, r0, r1, zr], by simp [go_sem, r0, r1, zr], by simp [go_sem, s0, s1, zs], by simp [go_sem, s0, s1, zs], by rw [HX.out]; simp [go_sem, a0, a1, za], by rw [HY.out]; simp [go_sem, a0, a1, za], by simp [go_sem, rf0, rf1, zr], by simp [go_sem, rf0, rf1, zr], by simp [go_sem, sf0, sf1, zs], by simp [go_sem, sf0, sf1, zs], by simp [go_sem, af0, af1, za], by simp [go_sem, af0, af1, za], by simp; omega, ?_⟩
          (repeat (first | with_reducible exact Below.refl _ _ | with_reducible assumption | with_reducible refine balloc ?_ _ | with_reducible refine bdrew ?_ | with_reducible refine below_drewN ?_ _ | with_reducible refine bset ?_ ?_ _ | with_reducible exact Nat.le_refl _ | with_reducible refine bsize ?_ | (dsimp only; refine Nat.le_trans ?_ (Nat.le_add_right _ _)) | with_reducible refine Nat.le_trans ?_ (Nat.le_add_right _ _) | (with_reducible refine bstep ?_ (by assumption))))
          all_goals first | (simp; done) | (simp; omega)
        case measure => simp [intOf]; omega
    · have hit' : i = t - 1 := by omega
      subst hit'
      have hca := fun W => dr_add (t - 1) (by omega) W
      have HA := Lib.hid hca
      clear hca hown
      by_cases ht0 : t = 0
      · subst ht0
        go_wp2
        refine bodyPost_ret (v := .tuple #[.agg #[.int .i64 0, .int .i64 1], .bool true]) (by simp only [results, Try.results23]; go_simp) rfl ⟨rfl, ?_⟩
        (repeat (first | with_reducible exact Below.refl _ _ | with_reducible assumption | with_reducible refine balloc ?_ _ | with_reducible refine bdrew ?_ | with_reducible refine below_drewN ?_ _ | with_reducible refine bset ?_ ?_ _ | with_reducible exact Nat.le_refl _ | with_reducible refine bsize ?_ | (dsimp only; refine Nat.le_trans ?_ (Nat.le_add_right _ _)) | with_reducible refine Nat.le_trans ?_ (Nat.le_add_right _ _) | (with_reducible refine bstep ?_ (by assumption))))
        all_goals first | (simp; done) | (simp; omega)
      · have hpos : 0 < t := by omega
        have e : ((t - 1 : Nat) : Int) + 1 = t := by omega
        have HA2 : ∀ W, Calls Try.prog 68 #[.agg #[.int .i64 ((t - 1 : Nat) : Int), .int .i64 1], .agg #[.int .i64 1, .int .i64 1]] W fun e w' => e = .returned (.tuple #[.agg #[.int .i64 t, .int .i64 1], .bool true]) ∧ Below W.heap.size W w' := by
          intro W; have := HA.out W; rwa [e] at this
        have HB := Lib.hid HA2
        clear HA HA2 e
        go_wp2_with fail
        go_region_with (first | (go_at_call 65; refine (whole_is_spec _ _).mono ?_; rintro e w4 ⟨rfl, rfl⟩) | (go_at_call 68; refine (HB.out _).mono ?_; rintro e w4 ⟨rfl, hb4⟩; (have hBX : Below wr.heap.size wr w4 := by (repeat (first | with_reducible exact Below.refl _ _ | with_reducible assumption | with_reducible refine balloc ?_ _ | with_reducible refine bdrew ?_ | with_reducible refine below_drewN ?_ _ | with_reducible refine bset ?_ ?_ _ | with_reducible exact Nat.le_refl _ | with_reducible refine bsize ?_ | (dsimp only; refine Nat.le_trans ?_ (Nat.le_add_right _ _)) | with_reducible refine Nat.le_trans ?_ (Nat.le_add_right _ _) | (with_reducible refine bstep ?_ (by assumption))))); (have q0 := keepa hBX zs s0); (have q1 := keepa hBX zs s1); (have q2 := keepf hBX zs sf0); (have q3 := keepf hBX zs sf1); (have p0 := keepa hBX zr r0); (have p1 := keepa hBX zr r1); (have p2 := keepf hBX zr rf0); (have p3 := keepf hBX zr rf1); (have zs4 : w.heap.size + 1 + 1 < w4.heap.size := Nat.lt_of_lt_of_le zs hBX.size); (have zr4 : w.heap.size < w4.heap.size := Nat.lt_of_lt_of_le zr hBX.size)))
        all_goals
          have bel4 := bstep hbel hBX
          clear hb4 hBX hbel
          go_wp2
          refine bodyPost_ret (v := .tuple #[.agg #[.int .i64 t, .int .i64 1], .bool true]) (by simp only [results, Try.results23]; go_simp) rfl ⟨rfl, ?_⟩
          (repeat (first | with_reducible exact Below.refl _ _ | with_reducible assumption | with_reducible refine balloc ?_ _ | with_reducible refine bdrew ?_ | with_reducible refine below_drewN ?_ _ | with_reducible refine bset ?_ ?_ _ | with_reducible exact Nat.le_refl _ | with_reducible refine bsize ?_ | (dsimp only; refine Nat.le_trans ?_ (Nat.le_add_right _ _)) | with_reducible refine Nat.le_trans ?_ (Nat.le_add_right _ _) | (with_reducible refine bstep ?_ (by assumption))))
          all_goals first | (simp; done) | (simp; omega)
theorem drivenOut_spec (t : Int) (w : World) :
    Calls Try.prog 23 #[.int .i64 t] w fun e w' => e = .returned (.tuple #[.agg #[.int .i64 (dvN t), .int .i64 (dvD t)], .bool (tkOk t)]) ∧ Below w.heap.size w w' := by
  unfold dvN dvD
  cases h : tkOk t
  · rw [if_neg (by simp), if_neg (by simp)]; exact drivenS_no t h w
  · rw [if_pos rfl, if_pos rfl]
    obtain ⟨k, hk, rfl⟩ := tk_nat h
    exact drivenS_yes k hk w
end Go.Proofs.Ytgpbkjakmbmccaa
