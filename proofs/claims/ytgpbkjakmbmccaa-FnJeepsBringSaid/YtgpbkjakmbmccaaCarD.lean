/- Contracts of CarriesOut, on both sides. -/
import Derived.Test.YtgpbkjakmbmccaaCarC
namespace Go.Proofs.Ytgpbkjakmbmccaa
open Go.ChangeShapes Go.WideShapes Go.ChangeAt Go.RowKit Go.Joins
set_option maxRecDepth 100000
set_option linter.unusedVariables false
set_option linter.unusedSimpArgs false

theorem dpP_bd (t : Nat) (ht : t ≤ 10) : ∀ p ∈ dpP 1 t (t - 1), ∀ y ∈ fDepot p, -9223372036854775808 ≤ y ∧ y ≤ 9223372036854775807 := by
  intro p hp y hy
  simp only [dpP, List.mem_map, List.mem_range] at hp
  obtain ⟨m, hm, rfl⟩ := hp
  have hs := wy_all t (by omega) m (by omega)
  simp only [wyOk, Bool.and_eq_true, beq_iff_eq, decide_eq_true_eq] at hs
  obtain ⟨⟨⟨⟨⟨⟨⟨a1, a2⟩, b1, b2⟩, c1, c2⟩, d1, d2⟩, s1⟩, s2⟩, s3⟩ := hs
  simp [fDepot, fuP] at hy
  omega
theorem pL_bd' (t : Nat) (ht : t ≤ 10) : ∀ p ∈ pL 1 t (t - 1), ∀ y ∈ fAmt p, -9223372036854775808 ≤ y ∧ y ≤ 9223372036854775807 := pL_bd 1 t (t - 1) (Or.inl rfl) (by omega)
set_option maxHeartbeats 800000 in
theorem carI_no (t : Int) (bt : -9223372036854775808 ≤ t ∧ t ≤ 9223372036854775807) (h : tkOk t = false) (w : World) :
    Calls Try.prog 20 #[.int .i64 t] w (AnsG 26 2 fAmt [] false w) := by
  have hcon : ∀ W, Calls Try.prog 12 #[.int .i64 t] W (AnsG 41 4 fDepot [] false W) := by
    intro W
    have := depotsOut_impl t bt W
    unfold dpL at this
    rw [h] at this
    simpa using this
  have HC := Lib.hid hcon
  clear hcon
  go_enter Try.func20, Try.ntmps20
  go_wp2_with fail; refine (HC.out _).mono ?_; rintro e w1 ⟨v, rfl, hown, hb1⟩
  go_wp2
  go_ret2
  exact ⟨_, rfl, ⟨rfl, Or.inl ⟨rfl, rfl⟩⟩, hb1⟩
set_option maxHeartbeats 1600000 in
theorem carI_yes (t : Nat) (ht : t ≤ 10) (w : World) :
    Calls Try.prog 20 #[.int .i64 t] w (AnsG 26 2 fAmt (crP t (t - 1)) true w) := by
  obtain ⟨i0, hi, hz0, hz1, hz2⟩ := info_parts infoAmt
  have hcon : ∀ W, Calls Try.prog 12 #[.int .i64 t] W (AnsG 41 4 fDepot (dpP 1 t (t - 1)) true W) := by
    intro W
    have hk : tkOk t = true := by unfold tkOk inB; simp; omega
    have := depotsOut_impl t (by omega) W
    unfold dpL at this
    rw [hk] at this
    simpa using this
  have HC := Lib.hid hcon
  clear hcon
  go_enter Try.func20, Try.ntmps20
  go_wp2_with fail; refine (HC.out _).mono ?_; rintro e w1 ⟨v, rfl, hown, hb1⟩
  rw [dpP_len] at hown
  go_wp2_with fail; refine (ways_impl t ht _ w _ _ hown (dpP_bd t ht)).mono ?_; rintro e w2 ⟨u, rfl, hu, hb2⟩
  have ha2 := bstep hb1 hb2
  obtain ⟨a, c, rfl⟩ := owns_shape hu
  clear hown hb1 hb2
  go_wp2
  go_loopw [6, 19] (fun u c wr => ∃ (i : Nat) (v : Value), v = u ∧ i ≤ t - 1 ∧ c = .int .i64 i ∧ wr.ownsRow w2.heap.size 26 2 v i (cellsG fAmt (crP t i)) ∧ Below w2.heap.size w2 wr) (fun _ c _ => t - 1 - (intOf c).toNat)
  case atStart => exact ⟨0, _, rfl, Nat.zero_le _, rfl, ⟨rfl, Or.inl ⟨rfl, rfl⟩⟩, Below.refl _ _⟩
  case round =>
    obtain ⟨i, v, rfl, hit, rfl, hown, hbel⟩ := hrel
    by_cases hlt : i < t - 1
    · obtain ⟨k, hk⟩ : ∃ k : Nat, k + i + 1 = t := ⟨t - 1 - i, by omega⟩
      have hk1 : 1 ≤ k := by omega
      have hk2 : k ≤ 9 := by omega
      have hi20 : i ≤ 20 := by omega
      obtain ⟨g, rfl⟩ : ∃ g, a = some ⟨g, 0, none⟩ := by
        rcases hu.2 with ⟨_, h0⟩ | ⟨g, cap, cur, hv, _⟩
        · omega
        · injection hv with h1 _ _; exact ⟨g, h1⟩
      have hL : LiesG 2 fAmt w2 ⟨g, 0, none⟩ c (pL 1 t (t - 1)) := liesG_own (l := pL 1 t (t - 1)) fAmt_len (by rw [pL_len]; exact hu) (pL_bd' t ht)
      have hLr := liesG_below hL hbel
      have hlc := hL.hlc
      rw [pL_len] at hlc
      have hcap := hL.hcap
      have hpa : (pL 1 t (t - 1))[i]? = some (1, 2 * (k : Int) + 1) := by
        rw [pL_get 1 t (t - 1) i hlt (by omega), pL_at 1 t i (by omega), show t - 1 - i = k by omega]; rfl
      have c0 := hLr.hcell i _ hpa 0 _ rfl
      have c1 := hLr.hcell i _ hpa 1 _ rfl
      rw [Addr.add_lit, Nat.zero_add] at c0 c1
      rw [Nat.add_zero] at c0
      have hgr : g < wr.heap.size := cell_lt c0
      have hsu := crP_succ t i
      rw [show t - 1 - i = k by omega] at hsu
      have HS := Lib.hid hsu
      have hcr := fun W => cr_con k hk1 hk2 W
      have HR := Lib.hid hcr
      clear hsu hcr hpa hLr hL hk
      go_wp2_with fail
      refine (HR.out _).mono ?_
      rintro e w3 ⟨rfl, hb3⟩
      have own3 : w3.ownsRow w2.heap.size 26 2 v i (cellsG fAmt (crP t i)) := by (repeat (first | with_reducible assumption | with_reducible refine own_alloc ?_ _ | with_reducible refine own_drew ?_ | with_reducible refine own_set ?_ ?_ _ | with_reducible refine ownsRow_below ?_ (by assumption)))
      have bel3 : Below w2.heap.size w2 w3 := by (repeat (first | with_reducible exact Below.refl _ _ | with_reducible assumption | with_reducible refine balloc ?_ _ | with_reducible refine bdrew ?_ | with_reducible refine below_drewN ?_ _ | with_reducible refine bset ?_ ?_ _ | with_reducible exact Nat.le_refl _ | with_reducible refine bsize ?_ | (dsimp only; refine Nat.le_trans ?_ (Nat.le_add_right _ _)) | with_reducible refine Nat.le_trans ?_ (Nat.le_add_right _ _) | (with_reducible refine bstep ?_ (by assumption))))
      clear hown hbel hb3 c0 c1 hgr
      go_wp2_with (at_builtin; refine wpList_append_own _ rfl _ _ 33 rfl w2.heap.size 26 i0 (.agg #[.int .i64 0, .int .i64 0]) 2 16 Try.underlying33 hi hz0 hz1 hz2 rfl (by decide) v i (cellsG fAmt (crP t i)) rfl (own3.alloc _) ⟨_, 0, none⟩ 1 1 [.int .i64 (2 * (k : Int) - 1), .int .i64 (2 * (k : Int) + 1)] rfl rfl ?c1 ?c2 ?c3 ?c4 ?c5 ?_)
      case c1 => exact cell_two_new _ _ _ _
      case c2 => simp [Value.oneCell']
      case c3 => unfold maxLen; omega
      case c4 => omega
      case c5 => have := bel3.size; simp; omega
      intro v' w4 hown' hgrow hnn
      have hown2 : w4.ownsRow w2.heap.size 26 2 v' (i + 1) (cellsG fAmt (crP t (i + 1))) := by
        rw [HS.out, cellsG_snoc]; simpa [fAmt] using hown'
      have bel4 : Below w2.heap.size w2 w4 := by
        refine grown_bel (base := w2.heap.size) (e := 26) (size := 2) (n := i) (xs := cellsG fAmt (crP t i)) ?_ hgrow (own3.alloc _) (Nat.le_refl _)
        (repeat (first | with_reducible exact Below.refl _ _ | with_reducible assumption | with_reducible refine balloc ?_ _ | with_reducible refine bdrew ?_ | with_reducible refine below_drewN ?_ _ | with_reducible refine bset ?_ ?_ _ | with_reducible exact Nat.le_refl _ | with_reducible refine bsize ?_ | (dsimp only; refine Nat.le_trans ?_ (Nat.le_add_right _ _)) | with_reducible refine Nat.le_trans ?_ (Nat.le_add_right _ _) | (with_reducible refine bstep ?_ (by assumption))))
      clear hown' hgrow hnn own3 bel3
      go_wp2
      go_roundw
      case rel => exact ⟨i + 1, _, rfl, by omega, by go_num, hown2, bel4⟩
      case measure => simp [intOf]; omega
    · have hit' : i = t - 1 := by omega
      subst hit'
      have hb0 := ha2.size
      go_wp2
      go_ret2
      exact ⟨_, rfl, by rw [crP_len]; exact own_mono hown hb0, bstep ha2 hbel⟩
theorem carS_no (t : Int) (h : tkOk t = false) (w : World) :
    Calls Try.prog 21 #[.int .i64 t] w (AnsG 26 2 fAmt [] false w) := by
  go_enter Try.func21, Try.ntmps21
  go_wp2_with (go_at_call 60; refine (jeTanks_spec _ _).mono ?_; rintro e w1 ⟨rfl, rfl⟩; rw [h])
  go_ret2
  exact ⟨_, rfl, ⟨rfl, Or.inl ⟨rfl, rfl⟩⟩, Below.refl _ _⟩
set_option maxHeartbeats 1600000 in
theorem carS_yes (t : Nat) (ht : t ≤ 10) (w : World) :
    Calls Try.prog 21 #[.int .i64 t] w (AnsG 26 2 fAmt (crP t (t - 1)) true w) := by
  obtain ⟨i0, hi, hz0, hz1, hz2⟩ := info_parts infoAmt
  have h : tkOk t = true := by unfold tkOk inB; simp; omega
  go_enter Try.func21, Try.ntmps21
  go_wp2_with (go_at_call 60; refine (jeTanks_spec _ _).mono ?_; rintro e w1 ⟨rfl, rfl⟩; rw [h])
  go_loopw [4, 5] (fun u c wr => ∃ (i : Nat) (v : Value), v = u ∧ i ≤ t - 1 ∧ c = .int .i64 ((t : Int) - 1 - i) ∧ wr.ownsRow w.heap.size 26 2 v i (cellsG fAmt (crP t i)) ∧ Below w.heap.size w wr) (fun _ c _ => (intOf c + 1).toNat)
  case atStart => exact ⟨0, _, rfl, Nat.zero_le _, by simp, ⟨rfl, Or.inl ⟨rfl, rfl⟩⟩, Below.refl _ _⟩
  case round =>
    obtain ⟨i, v, rfl, hit, rfl, hown, hbel⟩ := hrel
    by_cases hlt : i < t - 1
    · obtain ⟨k, hk⟩ : ∃ k : Nat, k + i + 1 = t := ⟨t - 1 - i, by omega⟩
      have hc : (t : Int) - 1 - i = (k : Int) := by omega
      rw [hc]
      have hk1 : 1 ≤ k := by omega
      have hk2 : k ≤ 9 := by omega
      have hi20 : i ≤ 20 := by omega
      have hsu := crP_succ t i
      rw [show t - 1 - i = k by omega] at hsu
      have HS := Lib.hid hsu
      have HK := Lib.hid hk
      have hsz : w.heap.size ≤ wr.heap.size := hbel.size
      clear hsu hk hc h
      go_wp2_with (at_builtin; refine wpList_append_own _ rfl _ _ 33 rfl w.heap.size 26 i0 (.agg #[.int .i64 0, .int .i64 0]) 2 16 Try.underlying33 hi hz0 hz1 hz2 rfl (by decide) v i (cellsG fAmt (crP t i)) rfl (hown.alloc _) ⟨_, 0, none⟩ 1 1 [.int .i64 (2 * (k : Int) - 1), .int .i64 (2 * (k : Int) + 1)] rfl rfl ?c1 ?c2 ?c3 ?c4 ?c5 ?_)
      case c1 => exact cell_two_new _ _ _ _
      case c2 => simp [Value.oneCell']
      case c3 => unfold maxLen; omega
      case c4 => omega
      case c5 => simp; omega
      intro v' w4 hown' hgrow hnn
      have hown2 : w4.ownsRow w.heap.size 26 2 v' (i + 1) (cellsG fAmt (crP t (i + 1))) := by
        rw [HS.out, cellsG_snoc]; simpa [fAmt] using hown'
      have bel4 : Below w.heap.size w w4 := by
        refine grown_bel (base := w.heap.size) (e := 26) (size := 2) (n := i) (xs := cellsG fAmt (crP t i)) ?_ hgrow (hown.alloc _) (Nat.le_refl _)
        (repeat (first | with_reducible exact Below.refl _ _ | with_reducible assumption | with_reducible refine balloc ?_ _ | with_reducible refine bdrew ?_ | with_reducible refine below_drewN ?_ _ | with_reducible refine bset ?_ ?_ _ | with_reducible exact Nat.le_refl _ | with_reducible refine bsize ?_ | (dsimp only; refine Nat.le_trans ?_ (Nat.le_add_right _ _)) | with_reducible refine Nat.le_trans ?_ (Nat.le_add_right _ _) | (with_reducible refine bstep ?_ (by assumption))))
      clear hown' hgrow hnn hown hbel
      go_wp2
      go_roundw
      case rel => exact ⟨i + 1, _, rfl, by omega, by have := HK.out; congr 1; omega, hown2, bel4⟩
      case measure => first | (simp [intOf]; done) | (simp [intOf]; omega)
    · have hit' : i = t - 1 := by omega
      subst hit'
      have hc : ∃ y : Int, (t : Int) - 1 - ((t - 1 : Nat) : Int) = y ∧ y ≤ 0 ∧ -1 ≤ y := ⟨_, rfl, by omega, by omega⟩
      obtain ⟨y, hy, y0, y1⟩ := hc
      rw [hy]
      clear hy h
      go_wp2
      go_ret2
      exact ⟨_, rfl, by rw [crP_len]; exact hown, hbel⟩
theorem carriesOut_spec (t : Int) (bt : -9223372036854775808 ≤ t ∧ t ≤ 9223372036854775807) (w : World) :
    Calls Try.prog 21 #[.int .i64 t] w (AnsG 26 2 fAmt (crL t) (tkOk t) w) := by
  unfold crL
  cases h : tkOk t
  · rw [if_neg (by simp)]; exact carS_no t h w
  · rw [if_pos rfl]
    obtain ⟨k, hk, rfl⟩ := tk_nat h
    exact carS_yes k hk w
theorem carriesOut_impl (t : Int) (bt : -9223372036854775808 ≤ t ∧ t ≤ 9223372036854775807) (w : World) :
    Calls Try.prog 20 #[.int .i64 t] w (AnsG 26 2 fAmt (crL t) (tkOk t) w) := by
  unfold crL
  cases h : tkOk t
  · rw [if_neg (by simp)]; exact carI_no t bt h w
  · rw [if_pos rfl]
    obtain ⟨k, hk, rfl⟩ := tk_nat h
    exact carI_yes k hk w
end Go.Proofs.Ytgpbkjakmbmccaa
