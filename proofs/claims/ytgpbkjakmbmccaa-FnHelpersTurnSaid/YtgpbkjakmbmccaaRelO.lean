/- Relays: StayStops, of the model. -/
import Derived.Test.YtgpbkjakmbmccaaRelM
import Derived.Test.YtgpbkjakmbmccaaAns
import Derived.Test.YtgpbkjakmbmccaaOrd
import Derived.Test.YtgpbkjakmbmccaaApp
import Derived.Deep.RegionHeldLaw
namespace Go.Proofs.Ytgpbkjakmbmccaa
open Go.ChangeShapes Go.WideShapes Go.ChangeAt Go.RowKit Go.Joins
set_option maxRecDepth 100000
set_option linter.unusedVariables false
set_option linter.unusedSimpArgs false


theorem whole_bS (k : Int) (w : World) :
    Calls Try.prog 65 #[.int .i64 k] w fun e w' => e = .returned (.agg #[.int .i64 k, .int .i64 1]) ∧ Below w.heap.size w w' :=
  (whole_is_spec k w).mono fun _ _ ⟨h, h'⟩ => ⟨h, by subst h'; (repeat (first | with_reducible exact Below.refl _ _ | with_reducible assumption | with_reducible refine balloc ?_ _ | with_reducible refine bdrew ?_ | with_reducible refine below_drewN ?_ _ | with_reducible refine bset ?_ ?_ _ | with_reducible exact Nat.le_refl _ | with_reducible refine bsize ?_ | (dsimp only; refine Nat.le_trans ?_ (Nat.le_add_right _ _)) | with_reducible refine Nat.le_trans ?_ (Nat.le_add_right _ _) | (with_reducible refine bstep ?_ (by assumption))))⟩
set_option maxHeartbeats 3200000 in
theorem stayStops_spec (t : Int) (bt : -9223372036854775808 ≤ t ∧ t ≤ 9223372036854775807) (w : World) :
    Calls Try.prog 43 #[.int .i64 t] w (AnsG 58 6 fHand (hsL t) (inB t 1 20) w) := by
  cases hk : inB t 1 20
  · rw [hsL_no t hk]
    go_enter Try.func43, Try.ntmps43
    go_wp2_with (go_at_call 77; refine (many_spec _ _).mono ?_; rintro e w1 ⟨rfl, rfl⟩; rw [hk])
    go_ret2
    refine ⟨_, rfl, ⟨rfl, Or.inl ⟨rfl, rfl⟩⟩, ?_⟩
    (repeat (first | with_reducible exact Below.refl _ _ | with_reducible assumption | with_reducible refine balloc ?_ _ | with_reducible refine bdrew ?_ | with_reducible refine below_drewN ?_ _ | with_reducible refine bset ?_ ?_ _ | with_reducible exact Nat.le_refl _ | with_reducible refine bsize ?_ | (dsimp only; refine Nat.le_trans ?_ (Nat.le_add_right _ _)) | with_reducible refine Nat.le_trans ?_ (Nat.le_add_right _ _) | (with_reducible refine bstep ?_ (by assumption))))
  · have hb := in_yes t hk
    obtain ⟨n, rfl⟩ := Int.eq_ofNat_of_zero_le (show 0 ≤ t by omega)
    have hn1 : 1 ≤ n := by omega
    have hn2 : n ≤ 20 := by omega
    rw [hsL_yes n hk]
    have hz := hs_zero n (by omega)
    simp only [beq_iff_eq] at hz
    have hz0' : (hsP n 0).1 = 0 := by rw [hz]
    have hz1' : (hsP n 0).2 = 1 := by rw [hz]
    obtain ⟨i0, hi, hz0, hz1, hz2⟩ := info_parts infoHandover
    go_enter Try.func43, Try.ntmps43
    go_wp2_with (first | (go_at_call 77; refine (many_spec _ _).mono ?_; rintro e w1 ⟨rfl, rfl⟩; rw [hk]) | (go_at_call 65; refine (whole_is_spec _ _).mono ?_; rintro e w1 ⟨rfl, rfl⟩))
    go_loopw [4, 6] (fun v k wr => ∃ i : Nat, i ≤ n - 1 ∧ k = .int .i64 ((n : Int) - i) ∧ wr.ownsRow (w.heap.size + 1 + 1) 58 6 v i (cellsG fHand (hL (hsF n) i)) ∧
      wr.cell? ⟨w.heap.size + 1, 0, none⟩ = some (.int .i64 (hsP n i).1) ∧ wr.cell? ⟨w.heap.size + 1, 1, none⟩ = some (.int .i64 (hsP n i).2) ∧ wr.frozen? ⟨w.heap.size + 1, 0, none⟩ = false ∧ wr.frozen? ⟨w.heap.size + 1, 1, none⟩ = false ∧ w.heap.size + 1 < wr.heap.size ∧ Below w.heap.size w wr) (fun v k _ => (intOf k).toNat)
    case atStart =>
      refine ⟨0, Nat.zero_le _, by simp, ⟨rfl, Or.inl ⟨rfl, rfl⟩⟩, by rw [hz0']; simp [go_sem], by rw [hz1']; simp [go_sem], by simp [go_sem], by simp [go_sem], by simp, ?_⟩
      (repeat (first | with_reducible exact Below.refl _ _ | with_reducible assumption | with_reducible refine balloc ?_ _ | with_reducible refine bdrew ?_ | with_reducible refine below_drewN ?_ _ | with_reducible refine bset ?_ ?_ _ | with_reducible exact Nat.le_refl _ | with_reducible refine bsize ?_ | (dsimp only; refine Nat.le_trans ?_ (Nat.le_add_right _ _)) | with_reducible refine Nat.le_trans ?_ (Nat.le_add_right _ _) | (with_reducible refine bstep ?_ (by assumption))))
    case round =>
      clear hz hz0' hz1'
      obtain ⟨i, him, rfl, hown, s0, s1, s2, s3, hs, hbel⟩ := hrel
      have i20 : i ≤ 20 := by omega
      obtain ⟨av, cv, rfl⟩ := owns_shape hown
      by_cases hlt : i < n - 1
      · have hB := hs_bd n i (by omega) hlt
        have hadd := fun W : World => amAdd_spec (hsP n i).1 (hsP n i).2 1 ((n : Int) - i) (am_of _ _ hB.a3) (am_of _ _ hB.a4) W
        rw [hB.m1, hB.m2] at hadd
        have HA := Lib.hid hadd
        have HW := Lib.hid (fun W : World => whole_bS 0 W)
        have HX := Lib.hid (show hsF n i = ⟨(hsP n (i + 1)).1, (hsP n (i + 1)).2, (n : Int) - i - 1, (n : Int) - i, 0, 1⟩ from rfl)
        clear hadd hB
        generalize hx : (hsP n (i + 1)).1 = X at *
        generalize hy : (hsP n (i + 1)).2 = Y at *
        generalize (hsP n i).1 = x at *
        generalize (hsP n i).2 = y at *
        generalize lowB _ _ = B0 at *
        have HXX := Lib.hid hx
        have HYY := Lib.hid hy
        clear hx hy
        go_wp2_with fail
        refine (HA.out _).mono ?_
        rintro e w1 ⟨rfl, hb1⟩
        have own1 := ownsRow_below hown hb1
        have q0 := keepa hb1 hs s0
        have q1 := keepa hb1 hs s1
        have q2 := keepf hb1 hs s2
        have q3 := keepf hb1 hs s3
        have hs1 : w.heap.size + 1 < w1.heap.size := Nat.lt_of_lt_of_le hs hb1.size
        have bel1 := bstep hbel hb1
        have ne1 : (Value.slice av i cv).ownBlock ≠ some (w.heap.size + 1) := own_ne own1 (by omega)
        clear hown s0 s1 s2 s3 hs hbel hb1
        have wq1 : IntKind.i64.wrap ((n : Int) - i - 1) = (n : Int) - i - 1 := IntWalk.i64_in _ (by omega)
        go_upto_region 9 with fail
        refine wp_region_noPanic ?_
        refine wp_region_T 10 (fun W => W.cell? ⟨w.heap.size + 1, 0, none⟩ = some (.int .i64 X) ∧ W.cell? ⟨w.heap.size + 1, 1, none⟩ = some (.int .i64 Y)) (by kernel_rfl) (by simp [go_sem, q0, q1, hs1]) (fun hHeld => ?_)
        have own2 := own_drew (own_set (p := ⟨w.heap.size + 1, 1, none⟩) (own_set (p := ⟨w.heap.size + 1, 0, none⟩) own1 ne1 (.int .i64 X)) ne1 (.int .i64 Y))
        (refine wpAnyT_take (i := 0) (v := ?_) (by rfl) (by kernel_rfl) (by kernel_rfl) (by kernel_rfl) (by kernel_rfl) (fun _ _ _ h => h) (Or.inl ⟨by rfl, ?_⟩) (by assumption) ?_; rotate_left; (focus (intro w hSw; (try dsimp only at hSw); go_simp; (try with_reducible rfl))); (try simp only [Act.put, List.setIfInBounds_toArray, List.set_cons_zero, List.set_cons_succ]))
        (refine wpAnyT_take (i := 1) (v := ?_) (by rfl) (by kernel_rfl) (by kernel_rfl) (by kernel_rfl) (by kernel_rfl) (fun _ _ _ h => h) (Or.inl ⟨by rfl, ?_⟩) (by assumption) ?_; rotate_left; (focus (intro w hSw; (try dsimp only at hSw); go_simp; (try with_reducible rfl))); (try simp only [Act.put, List.setIfInBounds_toArray, List.set_cons_zero, List.set_cons_succ]))
        (refine wpAnyT_take (i := 2) (v := ?_) (by rfl) (by kernel_rfl) (by kernel_rfl) (by kernel_rfl) (by kernel_rfl) (fun _ _ _ h => h) (Or.inl ⟨by rfl, ?_⟩) (by assumption) ?_; rotate_left; (focus (intro w hSw; (try dsimp only at hSw); go_simp; (try with_reducible rfl))); (try simp only [Act.put, List.setIfInBounds_toArray, List.set_cons_zero, List.set_cons_succ]))
        (refine wpAnyT_take (i := 3) (v := ?_) (by rfl) (by kernel_rfl) (by kernel_rfl) (by kernel_rfl) (by kernel_rfl) (fun _ _ _ h => h) (Or.inl ⟨by rfl, ?_⟩) (by assumption) ?_; rotate_left; (focus (intro w hSw; (try dsimp only at hSw); go_simp; (try with_reducible rfl))); (try simp only [Act.put, List.setIfInBounds_toArray, List.set_cons_zero, List.set_cons_succ]))
        (refine wpAnyT_take (i := 4) (v := ?_) (by rfl) (by kernel_rfl) (by kernel_rfl) (by kernel_rfl) (by kernel_rfl) (fun _ _ _ h => h) (Or.inl ⟨by rfl, ?_⟩) (by assumption) ?_; rotate_left; (focus (intro w hSw; (try dsimp only at hSw); go_simp; (try with_reducible rfl))); (try simp only [Act.put, List.setIfInBounds_toArray, List.set_cons_zero, List.set_cons_succ]))
        (refine wpAnyT_take (i := 5) (v := ?_) (by rfl) (by kernel_rfl) (by kernel_rfl) (by kernel_rfl) (by kernel_rfl) (fun _ _ _ h => h) (Or.inl ⟨by rfl, ?_⟩) (by assumption) ?_; rotate_left; (focus (intro w hSw; (try dsimp only at hSw); go_simp; (try with_reducible rfl))); (try simp only [Act.put, List.setIfInBounds_toArray, List.set_cons_zero, List.set_cons_succ]))
        (refine wpAnyT_one (i := 6) (by kernel_rfl) (by rfl) (fun K hK => ?_); go_simp; (go_at_call 65; refine (HW.out _).mono ?_; rintro e w3 ⟨rfl, hb3⟩; (have g0 := keepa hb3 (by simpa using hs1) hHeld.1); (have g1 := keepa hb3 (by simpa using hs1) hHeld.2); (have g2 : w3.frozen? ⟨w.heap.size + 1, 0, none⟩ = false := keepf hb3 (by simpa using hs1) (by simp [go_sem, q2])); (have g3 : w3.frozen? ⟨w.heap.size + 1, 1, none⟩ = false := keepf hb3 (by simpa using hs1) (by simp [go_sem, q3])); (have own3 := ownsRow_below own2 hb3); (have bel3 : Below w.heap.size w w3 := by (repeat (first | with_reducible exact Below.refl _ _ | with_reducible assumption | with_reducible refine balloc ?_ _ | with_reducible refine bdrew ?_ | with_reducible refine below_drewN ?_ _ | with_reducible refine bset ?_ ?_ _ | with_reducible exact Nat.le_refl _ | with_reducible refine bsize ?_ | (dsimp only; refine Nat.le_trans ?_ (Nat.le_add_right _ _)) | with_reducible refine Nat.le_trans ?_ (Nat.le_add_right _ _) | (with_reducible refine bstep ?_ (by assumption))))); (have hs3 : w.heap.size + 1 < w3.heap.size := Nat.lt_of_lt_of_le (by simpa using hs1) hb3.size)); (try go_wp2_with fail); refine hK.out _ _ (Or.inr (by exact ⟨g0, g1⟩)) (fun hHeld => ?_); replace hHeld := hHeld.resolve_left (by decide); clear hK; clear K; (try simp only [Act.put, List.setIfInBounds_toArray, List.set_cons_zero, List.set_cons_succ]))
        (refine wpAnyT_take (i := 7) (v := ?_) (by rfl) (by kernel_rfl) (by kernel_rfl) (by kernel_rfl) (by kernel_rfl) (fun _ _ _ h => h) (Or.inl ⟨by rfl, ?_⟩) (by assumption) ?_; rotate_left; (focus (intro w hSw; (try dsimp only at hSw); go_simp; (try with_reducible rfl))); (try simp only [Act.put, List.setIfInBounds_toArray, List.set_cons_zero, List.set_cons_succ]))
        clear wq1 own2 own1 q0 q1 q2 q3 bel1 hb3
        (refine wpAnyT_one (i := 8) (by kernel_rfl) (by rfl) (fun K hK => ?_); go_simp; skip; (try go_wp2_with fail); refine hK.out _ _ (Or.inr (by exact ⟨by simp [go_sem, g0, hs3], by simp [go_sem, g1, hs3]⟩)) (fun hHeld => ?_); replace hHeld := hHeld.resolve_left (by decide); clear hK; clear K; (try simp only [Act.put, List.setIfInBounds_toArray, List.set_cons_zero, List.set_cons_succ]))
        refine wpAnyT_one (i := 9) (by kernel_rfl) (by rfl) (fun K hK => ?_)
        refine step_append_own rfl (.tmp 23) (.tmp 31) 52 rfl (w.heap.size + 1 + 1) 58 i0 (.agg #[.int .i64 0, .int .i64 0, .int .i64 0, .int .i64 0, .int .i64 0, .int .i64 0]) 6 48 Try.underlying52 hi hz0 hz1 hz2 rfl (by decide) _ i _ ?kk6 (own3.alloc _) ⟨w3.heap.size, 0, none⟩ 1 1 [.int .i64 X, .int .i64 Y, .int .i64 ((n : Int) - i - 1), .int .i64 ((n : Int) - i), .int .i64 0, .int .i64 1] ?kk7 rfl ?kk1 ?kk2 ?kk3 ?kk4 ?kk5 ?_
        case kk1 => first | exact cell_six_new _ _ _ _ _ _ _ _ | simp [go_sem]
        case kk2 => simp [Value.oneCell']
        case kk3 => unfold maxLen; omega
        case kk4 => omega
        case kk5 => first | (simp; done) | (simp; omega)
        case kk6 => simp [Act.eval, Act.put]
        case kk7 => simp [Act.eval, Act.put]
        intro v' w4 hown' hgrow
        have own4 : w4.ownsRow (w.heap.size + 1 + 1) 58 6 v' (i + 1) (cellsG fHand (hL (hsF n) (i + 1))) := by
          rw [hL_succ, cellsG_snoc, HX.out]; simpa [fHand] using hown'
        have hB4 : Below (w.heap.size + 1 + 1) w3 w4 := ((Below.refl _ _).alloc (by omega) _).grown hgrow (by simp; omega) (fun g e => own_block own3 e)
        have bel4 : Below w.heap.size w w4 := bel3.trans (hB4.mono (by omega))
        have hs4 : w.heap.size + 1 < w4.heap.size := Nat.lt_of_lt_of_le hs3 hB4.size
        have u0 := (hB4.cell (p := ⟨w.heap.size + 1, 0, none⟩) (by first | (simp; done) | (simp; omega))).trans g0
        have u1 := (hB4.cell (p := ⟨w.heap.size + 1, 1, none⟩) (by first | (simp; done) | (simp; omega))).trans g1
        have u2 := (hB4.frozen (p := ⟨w.heap.size + 1, 0, none⟩) (by first | (simp; done) | (simp; omega))).trans g2
        have u3 := (hB4.frozen (p := ⟨w.heap.size + 1, 1, none⟩) (by first | (simp; done) | (simp; omega))).trans g3
        refine hK.out _ _ (Or.inr ⟨u0, u1⟩) (fun hHeld => ?_)
        replace hHeld := hHeld.resolve_left (by decide)
        clear hK
        clear K
        (try simp only [Act.put, List.setIfInBounds_toArray, List.set_cons_zero, List.set_cons_succ])
        clear hown' hgrow own3 bel3 hs3 g0 g1 g2 g3 hB4
        refine wpAnyT_one (i := 10) (by kernel_rfl) (by rfl) (fun K hK => ?_)
        go_simp
        refine hK.out _ _ (Or.inl rfl) (fun _ => ?_)
        refine wpAnyT_done (by kernel_rfl) ?_ _
        refine NoPanic.normal ?_
        go_wp2
        go_roundw
        case rel => exact ⟨i + 1, by omega, by congr 1; omega, own4, by rw [HXX.out]; exact u0, by rw [HYY.out]; exact u1, u2, u3, hs4, bel4⟩
        case measure => first | (simp [intOf]; done) | (simp [intOf]; omega)
      · obtain rfl : i = n - 1 := by omega
        have hlen : (hL (hsF n) (n - 1)).length = n - 1 := hL_len _ _
        go_wp2
        go_ret2
        exact ⟨_, rfl, by rw [hlen]; exact own_mono hown (by omega), hbel⟩

end Go.Proofs.Ytgpbkjakmbmccaa
