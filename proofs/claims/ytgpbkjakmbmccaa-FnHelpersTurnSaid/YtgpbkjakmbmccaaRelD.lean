/- Relays: what all drive, of the model. -/
import Derived.Test.YtgpbkjakmbmccaaRelC
import Derived.Test.YtgpbkjakmbmccaaOrd2
import Derived.Deep.RegionHeldLaw
namespace Go.Proofs.Ytgpbkjakmbmccaa
open Go.ChangeShapes Go.WideShapes Go.ChangeAt Go.RowKit Go.Joins
set_option maxRecDepth 100000
set_option linter.unusedVariables false
set_option linter.unusedSimpArgs false


set_option maxHeartbeats 3200000 in
theorem DrivenByAll_spec (n : Int) (w : World) :
    Calls Try.prog 41 #[.int .i64 n] w fun e w' => e = .returned (.tuple #[.agg #[.int .i64 (shX n n 1), .int .i64 (shY n n 1)], .bool (inB n 1 20)]) ∧ Below w.heap.size w w' := by
  cases hk : inB n 1 20
  · have e1 : shX n n 1 = 0 := by simp [shX, hk]
    have e2 : shY n n 1 = 0 := by simp [shY, hk]
    rw [e1, e2]; clear e1 e2
    go_enter Try.func41, Try.ntmps41
    go_wp2_with (go_at_call 77; refine (many_spec _ _).mono ?_; rintro e w1 ⟨rfl, rfl⟩; rw [hk])
    refine bodyPost_ret (v := .tuple #[.agg #[.int .i64 0, .int .i64 0], .bool false]) (by simp only [results, Try.results41]; go_simp) rfl ⟨rfl, ?_⟩
    (repeat (first | with_reducible exact Below.refl _ _ | with_reducible assumption | with_reducible refine balloc ?_ _ | with_reducible refine bdrew ?_ | with_reducible refine below_drewN ?_ _ | with_reducible refine bset ?_ ?_ _ | with_reducible exact Nat.le_refl _ | with_reducible refine bsize ?_ | (dsimp only; refine Nat.le_trans ?_ (Nat.le_add_right _ _)) | with_reducible refine Nat.le_trans ?_ (Nat.le_add_right _ _) | (with_reducible refine bstep ?_ (by assumption))))
  · have hb := in_yes n hk
    obtain ⟨n, rfl⟩ := Int.eq_ofNat_of_zero_le (show 0 ≤ n by omega)
    have hE := dv_end n (by omega) (by omega)
    simp only [dvEnd, Bool.and_eq_true, beq_iff_eq] at hE
    have e1 : shX (n : Int) n 1 = dvN n (n - 1) := by rw [hE.1]; simp [shX, hk]
    have e2 : shY (n : Int) n 1 = dvD n (n - 1) := by rw [hE.2]; simp [shY, hk]
    rw [e1, e2]; clear e1 e2 hE
    have hcon := fun W : World => reShare_spec (2 * (n : Int)) n (by omega) (by omega) (by omega) (by omega) W
    rw [← (dv_zero n).1, ← (dv_zero n).2] at hcon
    have HC := Lib.hid hcon
    clear hcon
    go_enter Try.func41, Try.ntmps41
    go_wp2_with (first | (go_at_call 77; refine (many_spec _ _).mono ?_; rintro e w1 ⟨rfl, rfl⟩; rw [hk]) | (go_at_call 78; refine (HC.out _).mono ?_; rintro e w1 ⟨rfl, hb1⟩; (have ha1 : Below w.heap.size w w1 := by (repeat (first | with_reducible exact Below.refl _ _ | with_reducible assumption | with_reducible refine balloc ?_ _ | with_reducible refine bdrew ?_ | with_reducible refine below_drewN ?_ _ | with_reducible refine bset ?_ ?_ _ | with_reducible exact Nat.le_refl _ | with_reducible refine bsize ?_ | (dsimp only; refine Nat.le_trans ?_ (Nat.le_add_right _ _)) | with_reducible refine Nat.le_trans ?_ (Nat.le_add_right _ _) | (with_reducible refine bstep ?_ (by assumption))))); obtain ⟨kc1, kf1, kz1, ky1, kx1, kv1, ku1⟩ := bcell hb1))
    go_loopw [5] (fun i wr => ∃ k : Nat, k ≤ n - 1 ∧ i = .int .i64 ((n : Int) - k) ∧ wr.cell? ⟨w1.heap.size, 0, none⟩ = some (.int .i64 (dvN n k)) ∧ wr.cell? ⟨w1.heap.size, 1, none⟩ = some (.int .i64 (dvD n k)) ∧
      wr.frozen? ⟨w1.heap.size, 0, none⟩ = false ∧ wr.frozen? ⟨w1.heap.size, 1, none⟩ = false ∧ wr.cell? ⟨w.heap.size, 0, none⟩ = some (.int .i64 0) ∧ wr.cell? ⟨w.heap.size, 1, none⟩ = some (.int .i64 0) ∧
      wr.frozen? ⟨w.heap.size, 0, none⟩ = false ∧ wr.frozen? ⟨w.heap.size, 1, none⟩ = false ∧ w1.heap.size < wr.heap.size ∧ Below w.heap.size w wr) (fun i _ => (intOf i - 1).toNat)
    case atStart =>
      have l1 : w.heap.size < w1.heap.size := by have := hb1.size; simp at this; omega
      have n1 : ¬ (w.heap.size = w1.heap.size) := by omega
      refine ⟨0, by omega, by simp, ?_, ?_, ?_, ?_, ?_, ?_, ?_, ?_, ?_, ?_⟩
      all_goals first | ((repeat (first | with_reducible exact Below.refl _ _ | with_reducible assumption | with_reducible refine balloc ?_ _ | with_reducible refine bdrew ?_ | with_reducible refine below_drewN ?_ _ | with_reducible refine bset ?_ ?_ _ | with_reducible exact Nat.le_refl _ | with_reducible refine bsize ?_ | (dsimp only; refine Nat.le_trans ?_ (Nat.le_add_right _ _)) | with_reducible refine Nat.le_trans ?_ (Nat.le_add_right _ _) | (with_reducible refine bstep ?_ (by assumption)))); done) | (simp [go_sem]; done) | (simp [go_sem, kc1, kf1, l1, n1]; done)
    case round =>
      have l1 : w.heap.size < w1.heap.size := by have := hb1.size; simp at this; omega
      obtain ⟨k, hkn, rfl, s1, s2, s3, s4, r1, r2, r3, r4, hs, hbel⟩ := hrel
      clear kc1 kf1 kz1 ky1 kx1 kv1 ku1 hb1 ha1
      have sz : w.heap.size < wr.heap.size := by omega
      by_cases hlt : k < n - 1
      · have hd := dv_all n (by omega) (by omega) k hlt
        simp only [dvOk, Bool.and_eq_true, beq_iff_eq] at hd
        obtain ⟨⟨⟨⟨d1, d2⟩, d3⟩, d4⟩, d5⟩ := hd
        have hsh := fun W : World => reShare_spec (2 * ((n : Int) + 1 - ((n : Int) - k))) n (by omega) (by omega) (by omega) (by omega) W
        have hadd := fun W : World => amAdd_spec (dvN n k) (dvD n k) (dvT n k) (dvU n k) (am_of _ _ d1) (am_of _ _ d2) W
        rw [d3, d4, d5] at hadd
        rw [show lowN (2 * ((n : Int) + 1 - ((n : Int) - k))) ((n : Int) + 1) = dvT n k from rfl, show lowD (2 * ((n : Int) + 1 - ((n : Int) - k))) ((n : Int) + 1) = dvU n k from rfl] at hsh
        have HS := Lib.hid hsh
        have HA := Lib.hid hadd
        clear hsh hadd d1 d2 d3 d4 d5
        have wq1 : IntKind.i64.wrap ((n : Int) + 1) = (n : Int) + 1 := IntWalk.i64_in _ (by omega)
        have wq2 : IntKind.i64.wrap ((n : Int) + 1 - ((n : Int) - k)) = (n : Int) + 1 - ((n : Int) - k) := IntWalk.i64_in _ (by omega)
        have wq3 : IntKind.i64.wrap (2 * ((n : Int) + 1 - ((n : Int) - k))) = 2 * ((n : Int) + 1 - ((n : Int) - k)) := IntWalk.i64_in _ (by omega)
        go_upto_region 7 with fail
        refine wp_region_noPanic ?_
        refine wp_region_U 12 (fun W => W.cell? ⟨w1.heap.size, 0, none⟩ = some (.int .i64 (dvN n k)) ∧ W.cell? ⟨w1.heap.size, 1, none⟩ = some (.int .i64 (dvD n k))) (by kernel_rfl) (by simp [go_sem, s1, s2]) (fun hHeld => ?_)
        (refine wpAnyU_take (i := 0) (v := ?_) (by rfl) (by decide) (by kernel_rfl) (by kernel_rfl) (by kernel_rfl) (by kernel_rfl) (by kernel_rfl) (fun _ _ _ h => h) (Or.inl ⟨by rfl, ?_⟩) (by assumption) ?_; rotate_left; (focus (intro w hSw; (try dsimp only at hSw); go_simp; (try with_reducible rfl))); (try simp only [Act.put, List.setIfInBounds_toArray, List.set_cons_zero, List.set_cons_succ]))
        (refine wpAnyU_take (i := 1) (v := ?_) (by rfl) (by decide) (by kernel_rfl) (by kernel_rfl) (by kernel_rfl) (by kernel_rfl) (by kernel_rfl) (fun _ _ _ h => h) (Or.inl ⟨by rfl, ?_⟩) (by assumption) ?_; rotate_left; (focus (intro w hSw; (try dsimp only at hSw); go_simp; (try with_reducible rfl))); (try simp only [Act.put, List.setIfInBounds_toArray, List.set_cons_zero, List.set_cons_succ]))
        (refine wpAnyU_take (i := 2) (v := ?_) (by rfl) (by decide) (by kernel_rfl) (by kernel_rfl) (by kernel_rfl) (by kernel_rfl) (by kernel_rfl) (fun _ _ _ h => h) (Or.inl ⟨by rfl, ?_⟩) (by assumption) ?_; rotate_left; (focus (intro w hSw; (try dsimp only at hSw); go_simp; (try with_reducible rfl))); (try simp only [Act.put, List.setIfInBounds_toArray, List.set_cons_zero, List.set_cons_succ]))
        (refine wpAnyU_take (i := 3) (v := ?_) (by rfl) (by decide) (by kernel_rfl) (by kernel_rfl) (by kernel_rfl) (by kernel_rfl) (by kernel_rfl) (fun _ _ _ h => h) (Or.inl ⟨by rfl, ?_⟩) (by assumption) ?_; rotate_left; (focus (intro w hSw; (try dsimp only at hSw); go_simp; (try with_reducible rfl))); (try simp only [Act.put, List.setIfInBounds_toArray, List.set_cons_zero, List.set_cons_succ]))
        (refine wpAnyU_take (i := 4) (v := ?_) (by rfl) (by decide) (by kernel_rfl) (by kernel_rfl) (by kernel_rfl) (by kernel_rfl) (by kernel_rfl) (fun _ _ _ h => h) (Or.inl ⟨by rfl, ?_⟩) (by assumption) ?_; rotate_left; (focus (intro w hSw; (try dsimp only at hSw); go_simp; (try with_reducible rfl))); (try simp only [Act.put, List.setIfInBounds_toArray, List.set_cons_zero, List.set_cons_succ]))
        (refine wpAnyU_take (i := 5) (v := ?_) (by rfl) (by decide) (by kernel_rfl) (by kernel_rfl) (by kernel_rfl) (by kernel_rfl) (by kernel_rfl) (fun _ _ _ h => h) (Or.inl ⟨by rfl, ?_⟩) (by assumption) ?_; rotate_left; (focus (intro w hSw; (try dsimp only at hSw); go_simp; (try with_reducible rfl))); (try simp only [Act.put, List.setIfInBounds_toArray, List.set_cons_zero, List.set_cons_succ]))
        (refine wpAnyU_take (i := 6) (v := ?_) (by rfl) (by decide) (by kernel_rfl) (by kernel_rfl) (by kernel_rfl) (by kernel_rfl) (by kernel_rfl) (fun _ _ _ h => h) (Or.inl ⟨by rfl, ?_⟩) (by assumption) ?_; rotate_left; (focus (intro w hSw; (try dsimp only at hSw); go_simp; (try with_reducible rfl))); (try simp only [Act.put, List.setIfInBounds_toArray, List.set_cons_zero, List.set_cons_succ]))
        (refine wpAnyU_one (i := 7) (by kernel_rfl) (by rfl) (fun K hK => ?_); go_simp; (go_at_call 78; refine (HS.out _).mono ?_; rintro e w3 ⟨rfl, hb3⟩; (have f0 : Below wr.heap.size wr w3 := by (repeat (first | with_reducible exact Below.refl _ _ | with_reducible assumption | with_reducible refine balloc ?_ _ | with_reducible refine bdrew ?_ | with_reducible refine below_drewN ?_ _ | with_reducible refine bset ?_ ?_ _ | with_reducible exact Nat.le_refl _ | with_reducible refine bsize ?_ | (dsimp only; refine Nat.le_trans ?_ (Nat.le_add_right _ _)) | with_reducible refine Nat.le_trans ?_ (Nat.le_add_right _ _) | (with_reducible refine bstep ?_ (by assumption))))); (have f1 := keepa f0 hs s1); (have f2 := keepa f0 hs s2)); (try go_wp2_with fail); refine hK.out _ _ (Or.inr (by exact ⟨f1, f2⟩)) (fun hHeld => ?_); replace hHeld := hHeld.resolve_left (by decide); clear hK; clear K; (try simp only [Act.put, List.setIfInBounds_toArray, List.set_cons_zero, List.set_cons_succ]))
        (refine wpAnyU_one (i := 8) (by kernel_rfl) (by rfl) (fun K hK => ?_); go_simp; (go_at_call 68; refine (HA.out _).mono ?_; rintro e w4 ⟨rfl, hb4⟩; (have g0 : Below wr.heap.size wr w4 := bstep f0 hb4); (have g1 := keepa g0 hs s1); (have g2 := keepa g0 hs s2)); (try go_wp2_with fail); refine hK.out _ _ (Or.inr (by exact ⟨g1, g2⟩)) (fun hHeld => ?_); replace hHeld := hHeld.resolve_left (by decide); clear hK; clear K; (try simp only [Act.put, List.setIfInBounds_toArray, List.set_cons_zero, List.set_cons_succ]))
        (refine wpAnyU_take (i := 9) (v := ?_) (by rfl) (by decide) (by kernel_rfl) (by kernel_rfl) (by kernel_rfl) (by kernel_rfl) (by kernel_rfl) (fun _ _ _ h => h) (Or.inl ⟨by rfl, ?_⟩) (by assumption) ?_; rotate_left; (focus (intro w hSw; (try dsimp only at hSw); go_simp; (try with_reducible rfl))); (try simp only [Act.put, List.setIfInBounds_toArray, List.set_cons_zero, List.set_cons_succ]))
        (refine wpAnyU_take (i := 10) (v := ?_) (by rfl) (by decide) (by kernel_rfl) (by kernel_rfl) (by kernel_rfl) (by kernel_rfl) (by kernel_rfl) (fun _ _ _ h => h) (Or.inl ⟨by rfl, ?_⟩) (by assumption) ?_; rotate_left; (focus (intro w hSw; (try dsimp only at hSw); go_simp; (try with_reducible rfl))); (try simp only [Act.put, List.setIfInBounds_toArray, List.set_cons_zero, List.set_cons_succ]))
        (refine wpAnyU_pure (i := 11) (v := ?_) (by rfl) (by decide) (by kernel_rfl) (by kernel_rfl) (by kernel_rfl) (fun _ _ _ h => h) (Or.inl ⟨by rfl, ?_⟩) (by first | exact Or.inr (by assumption) | exact Or.inl (by kernel_rfl)) ?_; rotate_left; (focus (intro w hSw; go_simp; (try with_reducible rfl))); (try simp only [Act.put, List.setIfInBounds_toArray, List.set_cons_zero, List.set_cons_succ]))
        have q1 := keepa g0 sz r1
        have q2 := keepa g0 sz r2
        have q3 := keepf g0 sz r3
        have q4 := keepf g0 sz r4
        have q5 := keepf g0 hs s3
        have q6 := keepf g0 hs s4
        have hs4 : w1.heap.size < w4.heap.size := Nat.lt_of_lt_of_le hs g0.size
        have bel4 : Below w.heap.size w w4 := bstep hbel g0
        have ne1 : ¬ (w.heap.size = w1.heap.size) := by omega
        have ne2 : ¬ (w1.heap.size = w.heap.size) := by omega
        clear wq1 wq2 wq3 f0 f1 f2 hb3 hb4 s1 s2 s3 s4 r1 r2 r3 r4 hbel g0 HS HA
        refine wpAnyU_one (i := 12) (by kernel_rfl) (by rfl) (fun K hK => ?_)
        go_simp
        refine hK.out _ _ (Or.inl (by kernel_rfl)) (fun _ => ?_)
        refine wpAnyU_done (by kernel_rfl) ?_ _
        refine NoPanic.normal ?_
        go_wp2
        go_roundw
        case rel =>
          refine ⟨k + 1, by omega, by congr 1; omega, ?_, ?_, ?_, ?_, ?_, ?_, ?_, ?_, ?_, ?_⟩
          all_goals first | exact bset (bset bel4 (Nat.le_of_lt l1) _) (Nat.le_of_lt l1) _ | ((repeat (first | with_reducible exact Below.refl _ _ | with_reducible assumption | with_reducible refine balloc ?_ _ | with_reducible refine bdrew ?_ | with_reducible refine below_drewN ?_ _ | with_reducible refine bset ?_ ?_ _ | with_reducible exact Nat.le_refl _ | with_reducible refine bsize ?_ | (dsimp only; refine Nat.le_trans ?_ (Nat.le_add_right _ _)) | with_reducible refine Nat.le_trans ?_ (Nat.le_add_right _ _) | (with_reducible refine bstep ?_ (by assumption)))); done) | (simp [go_sem, q1, q2, q3, q4, q5, q6, g1, g2, ne1, ne2, hs4]; done)
        case measure => first | (simp [intOf]; done) | (simp [intOf]; omega)
      · obtain rfl : n = k + 1 := by omega
        have ek : k + 1 - 1 = k := by omega
        rw [ek]
        go_wp2
        refine bodyPost_ret (v := .tuple #[.agg #[.int .i64 (dvN (k + 1) k), .int .i64 (dvD (k + 1) k)], .bool true]) (by simp only [results, Try.results41]; go_simp) rfl ⟨rfl, ?_⟩
        (repeat (first | with_reducible exact Below.refl _ _ | with_reducible assumption | with_reducible refine balloc ?_ _ | with_reducible refine bdrew ?_ | with_reducible refine below_drewN ?_ _ | with_reducible refine bset ?_ ?_ _ | with_reducible exact Nat.le_refl _ | with_reducible refine bsize ?_ | (dsimp only; refine Nat.le_trans ?_ (Nat.le_add_right _ _)) | with_reducible refine Nat.le_trans ?_ (Nat.le_add_right _ _) | (with_reducible refine bstep ?_ (by assumption))))

end Go.Proofs.Ytgpbkjakmbmccaa
