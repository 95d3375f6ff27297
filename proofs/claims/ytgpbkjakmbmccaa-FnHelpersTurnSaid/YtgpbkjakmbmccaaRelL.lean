/- Relays: BackStops and RescueStops, of the model. -/
import Derived.Test.YtgpbkjakmbmccaaRelK
namespace Go.Proofs.Ytgpbkjakmbmccaa
open Go.ChangeShapes Go.WideShapes Go.ChangeAt Go.RowKit Go.Joins
set_option maxRecDepth 100000
set_option linter.unusedVariables false
set_option linter.unusedSimpArgs false


set_option maxHeartbeats 3200000 in
theorem backStops_spec (t : Int) (bt : -9223372036854775808 ≤ t ∧ t ≤ 9223372036854775807) (w : World) :
    Calls Try.prog 33 #[.int .i64 t] w (AnsG 58 6 fHand (bkL t) (inB t 1 20) w) := by
  cases hk : inB t 1 20
  · rw [bkL_no t hk]
    go_enter Try.func33, Try.ntmps33
    go_wp2_with (go_at_call 77; refine (many_spec _ _).mono ?_; rintro e w1 ⟨rfl, rfl⟩; rw [hk])
    go_ret2
    refine ⟨_, rfl, ⟨rfl, Or.inl ⟨rfl, rfl⟩⟩, ?_⟩
    (repeat (first | with_reducible exact Below.refl _ _ | with_reducible assumption | with_reducible refine balloc ?_ _ | with_reducible refine bdrew ?_ | with_reducible refine below_drewN ?_ _ | with_reducible refine bset ?_ ?_ _ | with_reducible exact Nat.le_refl _ | with_reducible refine bsize ?_ | (dsimp only; refine Nat.le_trans ?_ (Nat.le_add_right _ _)) | with_reducible refine Nat.le_trans ?_ (Nat.le_add_right _ _) | (with_reducible refine bstep ?_ (by assumption))))
  · have hb := in_yes t hk
    obtain ⟨n, rfl⟩ := Int.eq_ofNat_of_zero_le (show 0 ≤ t by omega)
    have hn1 : 1 ≤ n := by omega
    have hn2 : n ≤ 20 := by omega
    rw [bkL_yes n hk]
    obtain ⟨i0, hi, hz0, hz1, hz2⟩ := info_parts infoHandover
    go_enter Try.func33, Try.ntmps33
    go_wp2_with (go_at_call 77; refine (many_spec _ _).mono ?_; rintro e w1 ⟨rfl, rfl⟩; rw [hk])
    go_loopw [4, 5, 6] (fun v k u wr => ∃ i : Nat, i ≤ n - 1 ∧ k = .int .i64 ((n : Int) - i) ∧ wr.ownsRow w.heap.size 58 6 v i (cellsG fHand (hL (bkF n) i)) ∧ Below w.heap.size w wr) (fun v k u _ => (intOf k).toNat)
    case atStart => exact ⟨0, Nat.zero_le _, by simp, ⟨rfl, Or.inl ⟨rfl, rfl⟩⟩, Below.refl _ _⟩
    case round =>
      obtain ⟨i, him, rfl, hown, hbel⟩ := hrel
      have i20 : i ≤ 20 := by omega
      have hsz := hbel.size
      by_cases hlt : i < n - 1
      · have H1 := Lib.hid (fun W : World => reShare_spec ((i : Int) + 1) (n : Int) (by omega) (by omega) (by omega) (by omega) W)
        have H2 := Lib.hid (fun W : World => reShare_spec ((n : Int) - (i : Int) - 1) (n : Int) (by omega) (by omega) (by omega) (by omega) W)
        have H3 := Lib.hid (fun W : World => reShare_spec ((i : Int) + 1) (n : Int) (by omega) (by omega) (by omega) (by omega) W)
        have ew : (n : Int) + 1 - ((n : Int) - (i : Int)) = (i : Int) + 1 := by omega
        go_wp2_with fail
        refine (H1.out _).mono ?_
        rintro e w1 ⟨rfl, hb1⟩
        have hown1 := ownsRow_below hown hb1
        have bel1 := bstep hbel hb1
        go_wp2_with fail
        refine (H2.out _).mono ?_
        rintro e w2 ⟨rfl, hb2⟩
        have hown2 := ownsRow_below hown1 hb2
        have bel2 := bstep bel1 hb2
        go_wp2_with fail
        refine (H3.out _).mono ?_
        rintro e w3 ⟨rfl, hb3⟩
        have hown3 := ownsRow_below hown2 hb3
        have bel3 := bstep bel2 hb3
        have sz3 := bel3.size
        clear hown hown1 hown2 hbel bel1 bel2 hb1 hb2 hb3
        go_wp2_with (at_builtin; refine wpList_append_own _ rfl _ _ 52 rfl w.heap.size 58 i0 (.agg #[.int .i64 0, .int .i64 0, .int .i64 0, .int .i64 0, .int .i64 0, .int .i64 0]) 6 48 Try.underlying52 hi hz0 hz1 hz2 rfl (by decide) _ _ _ rfl (hown3.alloc _) ⟨w3.heap.size, 0, none⟩ 1 1 [.int .i64 (lowN ((i : Int) + 1) ((n : Int) + 1)), .int .i64 (lowD ((i : Int) + 1) ((n : Int) + 1)), .int .i64 (lowN ((n : Int) - (i : Int) - 1) ((n : Int) + 1)), .int .i64 (lowD ((n : Int) - (i : Int) - 1) ((n : Int) + 1)), .int .i64 (lowN ((i : Int) + 1) ((n : Int) + 1)), .int .i64 (lowD ((i : Int) + 1) ((n : Int) + 1))] rfl rfl ?c1 ?c2 ?c3 ?c4 ?c5 ?_)
        case c1 => exact cell_six_new _ _ _ _ _ _ _ _
        case c2 => simp [Value.oneCell']
        case c3 => unfold maxLen; omega
        case c4 => omega
        case c5 => first | (simp; done) | (simp; omega)
        intro v' w4 hown' hgrow _
        have own4 : w4.ownsRow w.heap.size 58 6 v' (i + 1) (cellsG fHand (hL (bkF n) (i + 1))) := by
          have e : bkF n i = ⟨lowN ((i : Int) + 1) ((n : Int) + 1), lowD ((i : Int) + 1) ((n : Int) + 1), lowN ((n : Int) - (i : Int) - 1) ((n : Int) + 1), lowD ((n : Int) - (i : Int) - 1) ((n : Int) + 1), lowN ((i : Int) + 1) ((n : Int) + 1), lowD ((i : Int) + 1) ((n : Int) + 1)⟩ := by
            simp only [bkF, partF]
            congr 1 <;> (try congr 1) <;> omega
          rw [hL_succ, cellsG_snoc, e]; simpa [fHand] using hown'
        have bel4 : Below w.heap.size w w4 := by
          refine (bel3.alloc sz3 _).grown hgrow ?_ (fun g e => own_block hown3 e)
          simp; omega
        clear hown' hgrow hown3 bel3
        go_wp2
        go_roundw
        case rel => exact ⟨i + 1, by omega, by congr 1; omega, own4, bel4⟩
        case measure => first | (simp [intOf]; done) | (simp [intOf]; omega)
      · obtain rfl : i = n - 1 := by omega
        have hlen : (hL (bkF n) (n - 1)).length = n - 1 := hL_len _ _
        go_wp2
        go_ret2
        exact ⟨_, rfl, by rw [hlen]; exact hown, hbel⟩

end Go.Proofs.Ytgpbkjakmbmccaa
