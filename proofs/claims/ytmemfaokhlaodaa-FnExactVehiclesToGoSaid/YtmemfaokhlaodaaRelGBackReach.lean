/- Relays: VehiclesToGo, of the model. -/
import Derived.Test.YtmemfaokhlaodaaRelE
import Derived.Deep.RegionHeld3
namespace Go.Proofs.Ytmemfaokhlaodaa
open Go.ChangeShapes Go.WideShapes Go.ChangeAt Go.RowKit Go.Joins
set_option maxRecDepth 100000
set_option linter.unusedVariables false
set_option linter.unusedSimpArgs false


set_option maxHeartbeats 3200000 in
theorem least_BackReach (n d : Int) (w : World) :
    Calls Try.prog 62 #[.agg #[.int .i64 n, .int .i64 d], .int .u8 98] w fun e w' => e = .returned (.tuple #[.int .i64 (lsN 98 n d), .bool (lsB 98 n d)]) ∧ Below w.heap.size w w' := by
  cases ha : amB n d
  · obtain ⟨e1, e2⟩ := ls_none 98 n d ha
    rw [e1, e2]; clear e1 e2
    go_enter Try.func62, Try.ntmps62
    (go_wp2_with fail; refine (good_spec _ _ _).mono ?_; rintro e w1 ⟨rfl, hb1⟩; rw [ha]; have ha1 := hb1; obtain ⟨kc1, kf1, kz1, ky1, kx1, kv1, ku1⟩ := bcell hb1)
    go_wp2
    go_ret2
    refine ⟨rfl, ?_⟩
    (repeat (first | with_reducible exact Below.refl _ _ | with_reducible assumption | with_reducible refine balloc ?_ _ | with_reducible refine bdrew ?_ | with_reducible refine below_drewN ?_ _ | with_reducible refine bset ?_ ?_ _ | with_reducible exact Nat.le_refl _ | with_reducible refine bsize ?_ | (dsimp only; refine Nat.le_trans ?_ (Nat.le_add_right _ _)) | with_reducible refine Nat.le_trans ?_ (Nat.le_add_right _ _) | (with_reducible refine bstep ?_ (by assumption))))
  · have hR : ∀ (m : Nat), 0 < m → m < 21 → ∀ W : World, Calls Try.prog 64 #[.int .i64 (m : Int), .int .u8 98] W fun e w' => e = .returned (.agg #[.int .i64 (reP 98 m).1, .int .i64 (reP 98 m).2]) ∧ Below W.heap.size W w' :=
      fun m h0 h1 W => reReach_spec 98 m (Or.inr (Or.inl rfl)) h0 h1 W
    have hC : ∀ (m : Nat), 0 < m → m < 21 → ∀ W : World, Calls Try.prog 76 #[.agg #[.int .i64 (reP 98 m).1, .int .i64 (reP 98 m).2], .agg #[.int .i64 n, .int .i64 d]] W fun e w' => e = .returned (.int .i64 (sgI ((reP 98 m).1 * d - n * (reP 98 m).2))) ∧ Below W.heap.size W w' :=
      fun m h0 h1 W => cmp_spec _ _ n d (am_of _ _ (re_am 98 m (Or.inr (Or.inl rfl)) h0 h1)) (am_of _ _ ha) W
    have hG : ∀ m, gk 98 n d m = decide (0 ≤ sgI ((reP 98 m).1 * d - n * (reP 98 m).2)) := by
      intro m; simp only [gk, ha, Bool.true_and, sg_ge]
    have HR := Lib.hid hR
    have HC := Lib.hid hC
    have HG := Lib.hid hG
    have HA := Lib.hid ha
    clear hR hC hG
    go_enter Try.func62, Try.ntmps62
    (go_wp2_with fail; refine (good_spec _ _ _).mono ?_; rintro e w1 ⟨rfl, hb1⟩; rw [ha]; have ha1 := hb1; obtain ⟨kc1, kf1, kz1, ky1, kx1, kv1, ku1⟩ := bcell hb1)
    clear ha
    go_wp2
    go_loopw [6] (fun i wr => ∃ k : Nat, 1 ≤ k ∧ k ≤ 21 ∧ i = .int .i64 k ∧ Hid (lstF 98 n d (21 - k) k = lsN 98 n d) ∧ wr.cell? ⟨w.heap.size, 0, none⟩ = some (.int .i64 n) ∧ wr.cell? ⟨w.heap.size, 1, none⟩ = some (.int .i64 d) ∧ w.heap.size < wr.heap.size ∧ Below w.heap.size w wr) (fun i _ => 21 - (intOf i).toNat)
    case atStart =>
      refine ⟨1, by omega, by omega, rfl, rfl, ?_, ?_, ?_, ?_⟩
      all_goals first | ((repeat (first | with_reducible exact Below.refl _ _ | with_reducible assumption | with_reducible refine balloc ?_ _ | with_reducible refine bdrew ?_ | with_reducible refine below_drewN ?_ _ | with_reducible refine bset ?_ ?_ _ | with_reducible exact Nat.le_refl _ | with_reducible refine bsize ?_ | (dsimp only; refine Nat.le_trans ?_ (Nat.le_add_right _ _)) | with_reducible refine Nat.le_trans ?_ (Nat.le_add_right _ _) | (with_reducible refine bstep ?_ (by assumption)))); done) | (rw [kc1 _ _ (by simp)]; simp [go_sem]; done) | (exact kz1 _ (by simp)) | (simp [go_sem, kc1, kz1]; done)
    case round =>
      obtain ⟨k, hk1, hk, rfl, hfold, c1, c2, hlt0, hbel⟩ := hrel
      clear kc1 kf1 kz1 ky1 kx1 kv1 ku1 hb1
      by_cases hk20 : k ≤ 20
      · have hcmp := HC.out k hk1 (by omega)
        have hrea := HR.out k hk1 (by omega)
        have hg := HG.out k
        generalize sgI ((reP 98 k).1 * d - n * (reP 98 k).2) = X at *
        have HCC := Lib.hid hcmp
        have HRR := Lib.hid hrea
        clear hcmp hrea
        by_cases hX : 0 ≤ X
        · have hq : gk 98 n d k = true := by rw [hg]; simpa using hX
          have hn := Lib.hid (ls_at 98 n d k hk20 hq hfold.out hk1)
          clear hq hg hfold
          go_wp2_with fail
          go_region_held3 (fun w' => w'.cell? ⟨w.heap.size, 0, none⟩ = some (.int .i64 n) ∧ w'.cell? ⟨w.heap.size, 1, none⟩ = some (.int .i64 d) ∧ w.heap.size < w'.heap.size) (((go_split_ands; (repeat' apply And.intro) <;> first | assumption | (simp [go_sem]; done) | go_keep))) (first | (go_at_call 64; refine (HRR.out _).mono ?_; rintro e w1 ⟨rfl, hb⟩; skip; go_split_ands; (have f1 := (hb.cell (p := ⟨w.heap.size, 0, none⟩) (by assumption)).trans (by assumption)); (have f2 := (hb.cell (p := ⟨w.heap.size, 1, none⟩) (by assumption)).trans (by assumption)); (have f3 := Nat.lt_of_lt_of_le (by assumption) hb.size)) | (go_at_call 76; refine (HCC.out _).mono ?_; rintro e w1 ⟨rfl, hb⟩; skip; go_split_ands; (have f1 := (hb.cell (p := ⟨w.heap.size, 0, none⟩) (by assumption)).trans (by assumption)); (have f2 := (hb.cell (p := ⟨w.heap.size, 1, none⟩) (by assumption)).trans (by assumption)); (have f3 := Nat.lt_of_lt_of_le (by assumption) hb.size)))
          all_goals go_wp2
          all_goals go_ret2
          all_goals refine ⟨by rw [hn.out.1, hn.out.2]; rfl, ?_⟩
          all_goals (repeat (first | with_reducible exact Below.refl _ _ | with_reducible assumption | with_reducible refine balloc ?_ _ | with_reducible refine bdrew ?_ | with_reducible refine below_drewN ?_ _ | with_reducible refine bset ?_ ?_ _ | with_reducible exact Nat.le_refl _ | with_reducible refine bsize ?_ | (dsimp only; refine Nat.le_trans ?_ (Nat.le_add_right _ _)) | with_reducible refine Nat.le_trans ?_ (Nat.le_add_right _ _) | (with_reducible refine bstep ?_ (by assumption))))
        · have hq : gk 98 n d k = false := by rw [hg]; simpa using hX
          have hn := Lib.hid (ls_next 98 n d k hk20 hq hfold.out)
          clear hq hg hfold
          go_wp2_with fail
          go_region_held3 (fun w' => w'.cell? ⟨w.heap.size, 0, none⟩ = some (.int .i64 n) ∧ w'.cell? ⟨w.heap.size, 1, none⟩ = some (.int .i64 d) ∧ w.heap.size < w'.heap.size) (((go_split_ands; (repeat' apply And.intro) <;> first | assumption | (simp [go_sem]; done) | go_keep))) (first | (go_at_call 64; refine (HRR.out _).mono ?_; rintro e w1 ⟨rfl, hb⟩; skip; go_split_ands; (have f1 := (hb.cell (p := ⟨w.heap.size, 0, none⟩) (by assumption)).trans (by assumption)); (have f2 := (hb.cell (p := ⟨w.heap.size, 1, none⟩) (by assumption)).trans (by assumption)); (have f3 := Nat.lt_of_lt_of_le (by assumption) hb.size)) | (go_at_call 76; refine (HCC.out _).mono ?_; rintro e w1 ⟨rfl, hb⟩; skip; go_split_ands; (have f1 := (hb.cell (p := ⟨w.heap.size, 0, none⟩) (by assumption)).trans (by assumption)); (have f2 := (hb.cell (p := ⟨w.heap.size, 1, none⟩) (by assumption)).trans (by assumption)); (have f3 := Nat.lt_of_lt_of_le (by assumption) hb.size)))
          all_goals go_wp2
          all_goals go_roundw
          case rel =>
            refine ⟨k + 1, by omega, by omega, by go_num, hn, ?_, ?_, ?_, ?_⟩
            all_goals first | assumption | ((repeat (first | with_reducible exact Below.refl _ _ | with_reducible assumption | with_reducible refine balloc ?_ _ | with_reducible refine bdrew ?_ | with_reducible refine below_drewN ?_ _ | with_reducible refine bset ?_ ?_ _ | with_reducible exact Nat.le_refl _ | with_reducible refine bsize ?_ | (dsimp only; refine Nat.le_trans ?_ (Nat.le_add_right _ _)) | with_reducible refine Nat.le_trans ?_ (Nat.le_add_right _ _) | (with_reducible refine bstep ?_ (by assumption)))); done)
          case measure => first | (simp [intOf]; done) | (simp [intOf]; omega)
      · have hk21 : k = 21 := by omega
        subst hk21
        have hn := Lib.hid (ls_end 98 n d hfold.out)
        clear hfold
        go_wp2
        go_ret2
        refine ⟨by rw [hn.out.1, hn.out.2]; rfl, ?_⟩
        (repeat (first | with_reducible exact Below.refl _ _ | with_reducible assumption | with_reducible refine balloc ?_ _ | with_reducible refine bdrew ?_ | with_reducible refine below_drewN ?_ _ | with_reducible refine bset ?_ ?_ _ | with_reducible exact Nat.le_refl _ | with_reducible refine bsize ?_ | (dsimp only; refine Nat.le_trans ?_ (Nat.le_add_right _ _)) | with_reducible refine Nat.le_trans ?_ (Nat.le_add_right _ _) | (with_reducible refine bstep ?_ (by assumption))))
set_option maxHeartbeats 800000 in
theorem VehiclesToGo_spec (n d : Int) (w : World) :
    Calls Try.prog 34 #[.agg #[.int .i64 n, .int .i64 d]] w fun e w' => e = .returned (.tuple #[.int .i64 (lsN 98 n d), .bool (lsB 98 n d)]) ∧ Below w.heap.size w w' := by
  go_enter Try.func34, Try.ntmps34
  (go_wp2_with fail; refine (least_BackReach n d _).mono ?_; rintro e w1 ⟨rfl, hb1⟩; have ha1 := hb1; obtain ⟨kc1, kf1, kz1, ky1, kx1, kv1, ku1⟩ := bcell hb1)
  go_wp2
  go_ret2
  refine ⟨rfl, ?_⟩
  (repeat (first | with_reducible exact Below.refl _ _ | with_reducible assumption | with_reducible refine balloc ?_ _ | with_reducible refine bdrew ?_ | with_reducible refine below_drewN ?_ _ | with_reducible refine bset ?_ ?_ _ | with_reducible exact Nat.le_refl _ | with_reducible refine bsize ?_ | (dsimp only; refine Nat.le_trans ?_ (Nat.le_add_right _ _)) | with_reducible refine Nat.le_trans ?_ (Nat.le_add_right _ _) | (with_reducible refine bstep ?_ (by assumption))))
end Go.Proofs.Ytmemfaokhlaodaa
