/- Camels: StopsOf on both sides. -/
import Derived.Test.YtgpbkjakmbmccaaCamK
import Derived.Test.YtgpbkjakmbmccaaAddUp
import Derived.Test.YtgpbkjakmbmccaaAns
import Derived.Test.YtgpbkjakmbmccaaCamT
namespace Go.Proofs.Ytgpbkjakmbmccaa
open Go.ChangeShapes Go.WideShapes Go.ChangeAt Go.RowKit Go.Joins
set_option maxRecDepth 100000
set_option linter.unusedVariables false
set_option linter.unusedSimpArgs false

/-- The first i of the places where the rate changes. -/
def soP (L E d n : Int) (t i : Nat) : List (Int × Int) := (List.range i).map fun (m : Nat) => (paX L E d n t (m + 1), paY L E d n t (m + 1))
theorem soP_len (L E d n : Int) (t i : Nat) : (soP L E d n t i).length = i := by simp [soP]
theorem soP_succ (L E d n : Int) (t i : Nat) : soP L E d n t (i + 1) = soP L E d n t i ++ [(paX L E d n t (i + 1), paY L E d n t (i + 1))] := by simp [soP, List.range_succ]
def soL (L E n d : Int) : List (Int × Int) := if askB L E n d = true then soP L E d n (trp (L * d) n) (trp (L * d) n - 1) else []
theorem so_len (L E n d : Int) : (soL L E n d).length ≤ 1000 := by
  unfold soL; split
  · rw [soP_len]; have := trp_bd (L * d) n; omega
  · simp
theorem so_low {L E d n : Int} {t : Nat} (H : CamIn L E d n t) (i : Nat) (hi : i ≤ t) : lowB (paX L E d n t i) (paY L E d n t i) = true ∧ lowN (paX L E d n t i) (paY L E d n t i) = paX L E d n t i ∧ lowD (paX L E d n t i) (paY L E d n t i) = paY L E d n t i := by
  have hb := pa_bd H i hi
  have hdE := H.dE
  refine low_am _ _ ((amB_iff _ _).2 ⟨hb.1, by omega, hb.2.2.1, by omega, ?_⟩)
  exact low_coprime (paA L d n t i) (3465 * (d * E)) (by omega)
theorem gi_one (k : Int) : gi k 1 = 1 := by unfold gi; simp
/-- What the program asks of WayWith for the i-th place. -/
theorem so_way {L E d n : Int} {t : Nat} (H : CamIn L E d n t) (ht : trp (L * d) n = t) (ha : askB L E n d = true) (i k : Nat) (hi : k + i = t) (h1 : 1 ≤ i) (hk : 1 ≤ k) :
    twoN (wayWithK L E n d (k * L) 1) (wayWithX L E n d (k * L) 1) (wayWithM L E n d (k * L) 1) = paX L E d n t i ∧ twoD (wayWithK L E n d (k * L) 1) (wayWithX L E n d (k * L) 1) (wayWithM L E n d (k * L) 1) = paY L E d n t i := by
  obtain ⟨l1, l2⟩ := H.ld
  have hdE := H.dE
  have tb := H.ht.b
  have hkL := mul_le2 (k : Int) L 6 12 (by omega) (by omega) (by have := H.L1; omega) H.L2
  have hK : wayWithK L E n d (k * L) 1 = true := by
    have e1 : d * ((k : Int) * L) = k * (L * d) := by ac_rfl
    have e2 : L * (d * 1) = L * d := by rw [Int.mul_one]
    have e3 : (k : Int) * (L * d) ≤ 6 * (L * d) := Int.mul_le_mul_of_nonneg_right (by omega) (by omega)
    unfold wayWithK plB
    rw [ha, (amB_iff _ _).2 ⟨hkL.1, by omega, by omega, by omega, gi_one _⟩, e1, e2, decide_eq_true e3]
    simp
  rw [hK, (two_yes _ _).1, (two_yes _ _).2.1]
  have eX : wayWithX L E n d (k * L) 1 = paA L d n t i := by
    unfold wayWithX paA paU
    have e1 : d * ((k : Int) * L) = k * (L * d) := by ac_rfl
    have e2 : (t : Int) - i = k := by omega
    rw [if_neg (by omega), e1, e2, Int.mul_one, Int.one_mul]
  have eM : wayWithM L E n d (k * L) 1 = 3465 * (d * E) := by unfold wayWithM; rw [Int.mul_one]; ac_rfl
  rw [eX, eM]
  have hs := so_low H i (by omega)
  have hr := rd_is (paA L d n t i) (3465 * (d * E)) (by omega)
  have hb := pa_bd H i (by omega)
  have hl := lw_scale (gi (paA L d n t i) (3465 * (d * E))) (paX L E d n t i) (paY L E d n t i) (by have := hr.g1; omega) hb.2.2.1
  have f1 : gi (paA L d n t i) (3465 * (d * E)) * paX L E d n t i = paA L d n t i := hr.n1.symm
  have f2 : gi (paA L d n t i) (3465 * (d * E)) * paY L E d n t i = 3465 * (d * E) := hr.d1.symm
  rw [f1, f2] at hl
  exact ⟨hl.2.1.trans hs.2.1, hl.2.2.trans hs.2.2⟩
set_option maxHeartbeats 3200000 in
theorem stops_impl (L E n d : Int) (bn : -9223372036854775808 ≤ n ∧ n ≤ 9223372036854775807) (bd : -9223372036854775808 ≤ d ∧ d ≤ 9223372036854775807) (w : World) :
    Calls Try.prog 11 #[.agg #[.int .i64 L, .int .i64 E], .agg #[.int .i64 n, .int .i64 d]] w (AnsG 26 2 fAmt (soL L E n d) (askB L E n d) w) := by
  have HA := Lib.hid (fun W => ct_impl L E n d bn bd W)
  cases h1 : askB L E n d
  · have e : soL L E n d = [] := by unfold soL; rw [h1]; rfl
    rw [e]
    rw [h1] at HA
    generalize ctX L E n d = tt at *
    clear e h1
    go_enter Try.func11, Try.ntmps11
    (go_wp2_with fail; refine (HA.out _).mono ?_; rintro e w1 ⟨rfl, hb1⟩; have ha1 := hb1; obtain ⟨kc1, kf1, kz1, ky1, kx1, kv1, ku1⟩ := bcell hb1)
    go_wp2
    refine bodyPost_ret (v := .tuple #[.slice none 0 0, .bool false]) (by simp only [results, Try.results11]; go_simp) rfl ?_
    exact ans_owns rfl ⟨rfl, Or.inl ⟨rfl, rfl⟩⟩ (by (repeat (first | with_reducible exact Below.refl _ _ | with_reducible assumption | with_reducible refine balloc ?_ _ | with_reducible refine bdrew ?_ | with_reducible refine below_drewN ?_ _ | with_reducible refine bset ?_ ?_ _ | with_reducible exact Nat.le_refl _ | with_reducible refine bsize ?_ | (dsimp only; refine Nat.le_trans ?_ (Nat.le_add_right _ _)) | with_reducible refine Nat.le_trans ?_ (Nat.le_add_right _ _) | (with_reducible refine bstep ?_ (by assumption)))))
  have hask := h1
  obtain ⟨i1, i2, i3, i4⟩ := askB_yes L E n d h1
  obtain ⟨j1, j2, j3, j4⟩ := camB_yes L E i1
  obtain ⟨x1, x2, x3, x4⟩ := am_of n d i2
  have H := cam_in L E d n j1 j2 j3 j4 x3 i3 x1 i4
  have e : soL L E n d = soP L E d n (trp (L * d) n) (trp (L * d) n - 1) := by unfold soL; rw [h1]; rfl
  rw [e]
  have et : ctX L E n d = (trp (L * d) n : Int) := by unfold ctX; rw [if_pos h1]
  rw [et, h1] at HA
  have HSW := Lib.hid (fun i k hi hh1 hk => so_way H rfl hask i k hi hh1 hk)
  clear e et h1 i1 i2 hask
  generalize trp (L * d) n = t at *
  have ta := H.ht.a
  have tb := H.ht.b
  clear H
  obtain ⟨i0, hi, hz0, hz1, hz2⟩ := info_parts infoAmt
  go_enter Try.func11, Try.ntmps11
  (go_wp2_with fail; refine (HA.out _).mono ?_; rintro e w1 ⟨rfl, hb1⟩; have ha1 := hb1; obtain ⟨kc1, kf1, kz1, ky1, kx1, kv1, ku1⟩ := bcell hb1)
  have c1 : w1.cell? ⟨w.heap.size, 0, none⟩ = some (.int .i64 L) := by rw [kc1 _ _ (by simp)]; simp
  have c2 : w1.cell? ⟨w.heap.size, 1, none⟩ = some (.int .i64 E) := by rw [kc1 _ _ (by simp)]; simp
  have c3 : w1.cell? ⟨w.heap.size + 1, 0, none⟩ = some (.int .i64 n) := by rw [kc1 _ _ (by simp)]; simp
  have c4 : w1.cell? ⟨w.heap.size + 1, 1, none⟩ = some (.int .i64 d) := by rw [kc1 _ _ (by simp)]; simp
  have a1 : w.heap.size + 1 < w1.heap.size := kz1 _ (by simp)
  have hbw : Below w.heap.size w w1 := by (repeat (first | with_reducible exact Below.refl _ _ | with_reducible assumption | with_reducible refine balloc ?_ _ | with_reducible refine bdrew ?_ | with_reducible refine below_drewN ?_ _ | with_reducible refine bset ?_ ?_ _ | with_reducible exact Nat.le_refl _ | with_reducible refine bsize ?_ | (dsimp only; refine Nat.le_trans ?_ (Nat.le_add_right _ _)) | with_reducible refine Nat.le_trans ?_ (Nat.le_add_right _ _) | (with_reducible refine bstep ?_ (by assumption))))
  clear ha1 hb1 kc1 kf1 kz1 ky1 kx1 kv1 ku1
  go_wp2
  go_loopw [8, 9] (fun u c wr => ∃ (i : Nat) (v : Value), v = u ∧ i ≤ t - 1 ∧ c = .int .i64 ((t : Int) - 1 - i) ∧ wr.ownsRow w1.heap.size 26 2 v i (cellsG fAmt (soP L E d n t i)) ∧ Below w1.heap.size w1 wr) (fun _ c _ => (intOf c).toNat)
  case atStart => exact ⟨0, _, rfl, Nat.zero_le _, by simp, ⟨rfl, Or.inl ⟨rfl, rfl⟩⟩, by (repeat (first | with_reducible exact Below.refl _ _ | with_reducible assumption | with_reducible refine balloc ?_ _ | with_reducible refine bdrew ?_ | with_reducible refine below_drewN ?_ _ | with_reducible refine bset ?_ ?_ _ | with_reducible exact Nat.le_refl _ | with_reducible refine bsize ?_ | (dsimp only; refine Nat.le_trans ?_ (Nat.le_add_right _ _)) | with_reducible refine Nat.le_trans ?_ (Nat.le_add_right _ _) | (with_reducible refine bstep ?_ (by assumption))))⟩
  case round =>
    obtain ⟨i, v, rfl, hit, rfl, hown, hbel⟩ := hrel
    by_cases hlt : i < t - 1
    · obtain ⟨k, hk⟩ : ∃ k : Nat, k + (i + 1) = t := ⟨t - 1 - i, by omega⟩
      have hc : (t : Int) - 1 - i = (k : Int) := by omega
      rw [hc]
      have hw := HSW.out (i + 1) k hk (by omega) (by omega)
      have hkL := mul_le2 (k : Int) L 6 12 (by omega) (by omega) (by omega) j2
      have HW := Lib.hid (fun W => wayWith_pub L E n d (k * L) 1 bn bd (by omega) (by omega) W)
      rw [hw.1, hw.2] at HW
      have HWh := Lib.hid (fun W => whole_b ((k : Int) * L) W)
      have hsu := soP_succ L E d n t i
      obtain ⟨hkL, hkL'⟩ := hkL
      have wq : IntKind.i64.wrap ((k : Int) * L) = (k : Int) * L := IntWalk.i64_in _ (by omega)
      generalize twoB (wayWithK L E n d (k * L) 1) (wayWithX L E n d (k * L) 1) (wayWithM L E n d (k * L) 1) = B at *
      generalize paX L E d n t (i + 1) = x at *
      generalize paY L E d n t (i + 1) = y at *
      have HSU := Lib.hid hsu
      have HK := Lib.hid (show (k : Int) - 1 = (t : Int) - 1 - ((i + 1 : Nat) : Int) by omega)
      have hk1 : (1 : Int) ≤ k := by omega
      have hk6 : (k : Int) ≤ 6 := by omega
      clear hw hsu hc
      replace c1 := keepa hbel (by omega) c1
      replace c2 := keepa hbel (by omega) c2
      replace c3 := keepa hbel (by omega) c3
      replace c4 := keepa hbel (by omega) c4
      replace a1 : w.heap.size + 1 < wr.heap.size := Nat.lt_of_lt_of_le a1 hbel.size
      have a0 : w.heap.size < wr.heap.size := by omega
      have hi20 : i ≤ 20 := by omega
      go_upto_region 8 with fail
      go_cut [10] (fun s10 wx => ∃ gb : Nat, s10 = .pointer (some ⟨gb, 0, none⟩) ∧ wx.cell? ⟨gb, 0, none⟩ = some (.int .i64 x) ∧ wx.cell? ⟨gb, 1, none⟩ = some (.int .i64 y) ∧ gb < wx.heap.size ∧ Below wr.heap.size wr wx)
      case first =>
        have hS := Lib.hid (fun (W : World) (h : Below wr.heap.size wr W) => (⟨h, keepa h a0 c1, keepa h a0 c2, keepa h a1 c3, keepa h a1 c4⟩ : Below wr.heap.size wr W ∧ W.cell? ⟨w.heap.size, 0, none⟩ = some (.int .i64 L) ∧ W.cell? ⟨w.heap.size, 1, none⟩ = some (.int .i64 E) ∧ W.cell? ⟨w.heap.size + 1, 0, none⟩ = some (.int .i64 n) ∧ W.cell? ⟨w.heap.size + 1, 1, none⟩ = some (.int .i64 d)))
        go_region_held3 (fun W => Below wr.heap.size wr W ∧ W.cell? ⟨w.heap.size, 0, none⟩ = some (.int .i64 L) ∧ W.cell? ⟨w.heap.size, 1, none⟩ = some (.int .i64 E) ∧ W.cell? ⟨w.heap.size + 1, 0, none⟩ = some (.int .i64 n) ∧ W.cell? ⟨w.heap.size + 1, 1, none⟩ = some (.int .i64 d)) ((refine hS.out _ ?_; first | with_reducible assumption | ((repeat (first | with_reducible exact Below.refl _ _ | with_reducible assumption | with_reducible refine balloc ?_ _ | with_reducible refine bdrew ?_ | with_reducible refine below_drewN ?_ _ | with_reducible refine bset ?_ ?_ _ | with_reducible exact Nat.le_refl _ | with_reducible refine bsize ?_ | (dsimp only; refine Nat.le_trans ?_ (Nat.le_add_right _ _)) | with_reducible refine Nat.le_trans ?_ (Nat.le_add_right _ _) | (with_reducible refine bstep ?_ (by assumption)))); done))) (first | (go_at_call 52; refine (HWh.out _).mono ?_; rintro e w3 ⟨rfl, hb3⟩; (try have fr := HasRes.later (by first | with_reducible assumption | with_reducible exact HasRes.drew (by with_reducible assumption) | exact HasRes.newd _ _ _ _ | exact HasRes.new _ _ _ _ | exact HasRes.drew (HasRes.newd _ _ _ _) | exact HasRes.drew (HasRes.new _ _ _ _)) hb3); (try (have fr2 := fr; obtain ⟨rx, ry, y1, y2, y3, y4, y5⟩ := fr2)); (have f0 := bstep (by first | with_reducible assumption | ((repeat (first | with_reducible exact Below.refl _ _ | with_reducible assumption | with_reducible refine balloc ?_ _ | with_reducible refine bdrew ?_ | with_reducible refine below_drewN ?_ _ | with_reducible refine bset ?_ ?_ _ | with_reducible exact Nat.le_refl _ | with_reducible refine bsize ?_ | (dsimp only; refine Nat.le_trans ?_ (Nat.le_add_right _ _)) | with_reducible refine Nat.le_trans ?_ (Nat.le_add_right _ _) | (with_reducible refine bstep ?_ (by assumption)))); done) : Below wr.heap.size wr _) hb3); (have f1 := hS.out _ f0); go_split_ands) | (go_at_call 51; refine (HW.out _).mono ?_; rintro e w3 ⟨rfl, hb3⟩; (try have fr := HasRes.later (by first | with_reducible assumption | with_reducible exact HasRes.drew (by with_reducible assumption) | exact HasRes.newd _ _ _ _ | exact HasRes.new _ _ _ _ | exact HasRes.drew (HasRes.newd _ _ _ _) | exact HasRes.drew (HasRes.new _ _ _ _)) hb3); (try (have fr2 := fr; obtain ⟨rx, ry, y1, y2, y3, y4, y5⟩ := fr2)); (have f0 := bstep (by first | with_reducible assumption | ((repeat (first | with_reducible exact Below.refl _ _ | with_reducible assumption | with_reducible refine balloc ?_ _ | with_reducible refine bdrew ?_ | with_reducible refine below_drewN ?_ _ | with_reducible refine bset ?_ ?_ _ | with_reducible exact Nat.le_refl _ | with_reducible refine bsize ?_ | (dsimp only; refine Nat.le_trans ?_ (Nat.le_add_right _ _)) | with_reducible refine Nat.le_trans ?_ (Nat.le_add_right _ _) | (with_reducible refine bstep ?_ (by assumption)))); done) : Below wr.heap.size wr _) hb3); (have f1 := hS.out _ f0); go_split_ands))
        all_goals (go_wp2_with fail; go_meet)
        all_goals refine ⟨_, rfl, ?_, ?_, ?_, ?_⟩
        all_goals first | ((repeat (first | with_reducible exact Below.refl _ _ | with_reducible assumption | with_reducible refine balloc ?_ _ | with_reducible refine bdrew ?_ | with_reducible refine below_drewN ?_ _ | with_reducible refine bset ?_ ?_ _ | with_reducible exact Nat.le_refl _ | with_reducible refine bsize ?_ | (dsimp only; refine Nat.le_trans ?_ (Nat.le_add_right _ _)) | with_reducible refine Nat.le_trans ?_ (Nat.le_add_right _ _) | (with_reducible refine bstep ?_ (by assumption)))); done) | (simp [go_sem, y1, y2, y3, y4, y5]; done) | (simp [go_sem]; done) | (simp; omega)
      case rest =>
        obtain ⟨gb, rfl, d0, d1, dz, hf⟩ := hcut
        have own3 := ownsRow_below hown hf
        have hb2' : Below w1.heap.size w1 wc := bstep hbel hf
        have hsz3 := hb2'.size
        clear hown hf
        go_wp2_with (at_builtin; refine wpList_append_own _ rfl _ _ 33 rfl w1.heap.size 26 i0 (.agg #[.int .i64 0, .int .i64 0]) 2 16 Try.underlying33 hi hz0 hz1 hz2 rfl (by decide) v i (cellsG fAmt (soP L E d n t i)) rfl ?own ⟨_, 0, none⟩ 1 1 [.int .i64 x, .int .i64 y] rfl rfl ?s1 ?s2 ?s3 ?s4 ?s5 ?_)
        case own => (repeat (first | with_reducible assumption | with_reducible refine own_alloc ?_ _ | with_reducible refine own_drew ?_ | with_reducible refine own_set ?_ ?_ _))
        case s1 => first | exact cell_two_new _ _ _ _ | simp [go_sem]
        case s2 => simp [Value.oneCell']
        case s3 => unfold maxLen; omega
        case s4 => omega
        case s5 => first | (simp; done) | (simp; omega)
        intro v' w4 hown' hgrow hnn
        have hown2 : w4.ownsRow w1.heap.size 26 2 v' (i + 1) (cellsG fAmt (soP L E d n t (i + 1))) := by
          rw [HSU.out, cellsG_snoc]; simpa [fAmt] using hown'
        have bel4 : Below w1.heap.size w1 w4 := by
          refine grown_bel (base := w1.heap.size) (e := 26) (size := 2) (n := i) (xs := cellsG fAmt (soP L E d n t i)) ?_ hgrow (by (repeat (first | with_reducible assumption | with_reducible refine own_alloc ?_ _ | with_reducible refine own_drew ?_ | with_reducible refine own_set ?_ ?_ _))) (Nat.le_refl _)
          (repeat (first | with_reducible exact Below.refl _ _ | with_reducible assumption | with_reducible refine balloc ?_ _ | with_reducible refine bdrew ?_ | with_reducible refine below_drewN ?_ _ | with_reducible refine bset ?_ ?_ _ | with_reducible exact Nat.le_refl _ | with_reducible refine bsize ?_ | (dsimp only; refine Nat.le_trans ?_ (Nat.le_add_right _ _)) | with_reducible refine Nat.le_trans ?_ (Nat.le_add_right _ _) | (with_reducible refine bstep ?_ (by assumption))))
        clear hown' hgrow own3 hb2' wq
        go_wp2
        go_roundw
        case rel => exact ⟨i + 1, _, rfl, by omega, by rw [← HK.out], hown2, bel4⟩
        case measure => simp [intOf]; omega
    · have hk' : i = t - 1 := by omega
      subst hk'
      rw [show (t : Int) - 1 - ((t - 1 : Nat) : Int) = 0 by omega]
      go_wp2
      refine bodyPost_ret (v := .tuple #[v, .bool true]) (by simp only [results, Try.results11]; go_simp) rfl ?_
      exact ans_owns (by rw [soP_len]) (own_mono hown hbw.size) (bstep hbw hbel)
end Go.Proofs.Ytgpbkjakmbmccaa
