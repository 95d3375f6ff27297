/- The program's ParseAmount. -/
import Derived.Test.YtffafiidblamkaaDoorCut
namespace Go.Proofs.YtffafiidblamkaaDoor
open Go.ChangeShapes Go.WideShapes Go.ChangeAt Go.RowKit Go.Joins
set_option maxRecDepth 100000
set_option linter.unusedVariables false
set_option linter.unusedSimpArgs false

theorem mk_am (n d : Int) (h : amB n d = true) : mkN n d = n ∧ mkD n d = d ∧ mkB n d = true := by
  obtain ⟨n0, n1, d0, d1⟩ := am_of n d h
  have hg : gi n d = 1 := ((amB_iff n d).1 h).2.2.2.2
  have e1 : n / gi n d = n := by rw [hg]; omega
  have e2 : d / gi n d = d := by rw [hg]; omega
  have hl : lowB n d = true := (lowB_iff n d).2 ⟨n0, d0, by rw [e1]; exact n1, by rw [e2]; exact d1⟩
  have ho : mkOk n d = true := by
    unfold mkOk inB
    rw [decide_eq_true (show 0 ≤ n ∧ n ≤ 1000000000000000 from ⟨n0, by omega⟩), decide_eq_true (show 1 ≤ d ∧ d ≤ 1000000000000000 from ⟨d0, by omega⟩)]; rfl
  refine ⟨?_, ?_, ?_⟩
  · unfold mkN lowN; rw [if_pos ho, if_pos hl, e1]
  · unfold mkD lowD; rw [if_pos ho, if_pos hl, e2]
  · unfold mkB; rw [ho, hl]; rfl
theorem mkN_le (n d : Int) : mkN n d ≤ 1000000000 := by
  unfold mkN lowN
  split
  · split
    · next h => exact ((lowB_iff n d).1 h).2.2.1
    · omega
  · omega
theorem mkD_le (n d : Int) : mkD n d ≤ 1000000000 := by
  unfold mkD lowD
  split
  · split
    · next h => exact ((lowB_iff n d).1 h).2.2.2
    · omega
  · omega
theorem raV_le (l : List UInt8) : (raV l).1 ≤ 1000000000 ∧ (raV l).2.1 ≤ 1000000000 := by
  unfold raV
  split
  · split
    · exact ⟨mkN_le _ _, mkD_le _ _⟩
    · exact ⟨by decide, by decide⟩
  · have := rnI_bd (Lib.cut l [43]).1
    exact ⟨by show rnI _ ≤ _; omega, by show (1 : Int) ≤ _; omega⟩
theorem rn_dec (k : Int) (h0 : 0 ≤ k) (h1 : k ≤ 999999) : rdB (Lib.decDigits k.toNat) = true ∧ rnI (Lib.decDigits k.toNat) = k := by
  have h := dec_read k.toNat (by omega)
  refine ⟨h, ?_⟩
  unfold rnI
  rw [if_pos h, dec_val]
  omega
theorem ra_text (n d : Int) (h : shB n d = true) : raV (txL n d) = (n, d, true) := by
  obtain ⟨ha, h1, h2⟩ := shB_parts n d h
  obtain ⟨n0, n1, d0, d1⟩ := am_of n d ha
  have hg : gi n d = 1 := ((amB_iff n d).1 ha).2.2.2.2
  have hq0 := Int.ediv_nonneg n0 (show 0 ≤ d by omega)
  have hr0 := Int.emod_nonneg n (show d ≠ 0 by omega)
  have hr1 := Int.emod_lt_of_pos n (show 0 < d by omega)
  have hdm := Int.mul_ediv_add_emod n d
  obtain ⟨a1, a2⟩ := rn_dec (n / d) hq0 h1
  obtain ⟨b1, b2⟩ := rn_dec (n % d) hr0 (by omega)
  obtain ⟨c1, c2⟩ := rn_dec d (by omega) h2
  unfold txL
  by_cases hr : 0 < n % d
  · rw [if_pos hr]
    unfold raV
    rw [cut_yes 43 _ _ (plus_no _)]
    simp only
    rw [cut_yes 47 _ _ (slash_no _)]
    simp only
    rw [if_pos (by first | exact ⟨a1, trivial⟩ | exact ⟨a1, rfl⟩ | exact a1), if_pos ⟨b1, c1⟩, a2, b2, c2, Int.mul_comm, hdm]
    obtain ⟨m1, m2, m3⟩ := mk_am n d ha
    rw [m1, m2, m3]
  · have hz : n % d = 0 := by omega
    have hd1 : d = 1 := by
      have := gi_mod n d n0 (by omega)
      rw [hz, hg] at this
      unfold gi at this
      rw [Int.gcd_zero_left] at this
      omega
    rw [if_neg hr]
    unfold raV
    rw [cut_no 43 _ (plus_no _)]
    simp only
    rw [if_neg (by simp), a1, a2]
    subst hd1
    simp
/-- What is read: the numbers, and whether. -/
def apN (l : List UInt8) : Int := ((apV l).getD (0, 0)).1
def apD (l : List UInt8) : Int := ((apV l).getD (0, 0)).2
def apB (l : List UInt8) : Bool := (apV l).isSome
theorem ap_yes (l : List UInt8) (h2 : shB (raV l).1 (raV l).2.1 = true) (h3 : txL (raV l).1 (raV l).2.1 = l) : apN l = (raV l).1 ∧ apD l = (raV l).2.1 ∧ apB l = true := by
  have h := ap_text _ _ h2
  rw [h3] at h
  unfold apN apD apB
  rw [h]
  exact ⟨rfl, rfl, rfl⟩
theorem ap_no (l : List UInt8) (h : ¬ ((raV l).2.2 = true ∧ shB (raV l).1 (raV l).2.1 = true ∧ txL (raV l).1 (raV l).2.1 = l)) : apN l = 0 ∧ apD l = 0 ∧ apB l = false := by
  cases ha : apV l with
  | none => unfold apN apD apB; rw [ha]; exact ⟨rfl, rfl, rfl⟩
  | some p =>
    obtain ⟨n, d⟩ := p
    obtain ⟨h1, h2⟩ := ap_sound l n d ha
    have h3 := ra_text n d h1
    rw [h2] at h3
    rw [h3] at h
    exact absurd ⟨rfl, h1, h2⟩ h
theorem txS_list (n d : Int) (s : ByteArray) : txS n d = s ↔ txL n d = s.data.toList := by
  rw [txS_is]
  constructor
  · intro e; rw [← e]
  · intro e; rw [e]
set_option maxHeartbeats 1600000 in
theorem parse_impl (s : ByteArray) (hs : s.size ≤ 1048576) (w : World) (he : EnvOk w) :
    Calls Tryd.prog 11 #[.string s] w fun e w' => e = .returned (.tuple #[.agg #[.int .i64 (apN s.data.toList), .int .i64 (apD s.data.toList)], .bool (apB s.data.toList)]) ∧ Below w.heap.size w w' := by
  have HT := Lib.hid (fun (W : World) (h : Below w.heap.size w W) => env_on he h)
  have HR := Lib.hid (fun W t => readAm_impl s hs W t)
  have hb := raV_le s.data.toList
  have HA := Lib.hid (fun W t => amountText_impl (raV s.data.toList).1 (raV s.data.toList).2.1 (by omega) (by omega) W t)
  by_cases hc : (raV s.data.toList).2.2 = true ∧ shB (raV s.data.toList).1 (raV s.data.toList).2.1 = true ∧ txL (raV s.data.toList).1 (raV s.data.toList).2.1 = s.data.toList
  · obtain ⟨c1, c2, c3⟩ := hc
    obtain ⟨e1, e2, e3⟩ := ap_yes _ c2 c3
    have e4 : atS (raV s.data.toList).1 (raV s.data.toList).2.1 = s := by
      unfold atS; rw [if_pos c2]; exact (txS_list _ _ s).2 c3
    rw [e1, e2, e3]
    rw [e4, c2] at HA
    rw [c1] at HR
    clear e1 e2 e3 e4 c1 c2 c3
    generalize (raV s.data.toList).1 = n at *
    generalize (raV s.data.toList).2.1 = d at *
    go_enter Tryd.func11, Tryd.ntmps11
    (go_wp2_with fail; refine (HR.out _ (HT.out _ (by (repeat (first | with_reducible exact Below.refl _ _ | with_reducible assumption | with_reducible refine balloc ?_ _ | with_reducible refine bdrew ?_ | with_reducible refine below_drewN ?_ _ | with_reducible refine bset ?_ ?_ _ | with_reducible exact Nat.le_refl _ | with_reducible refine bsize ?_ | (dsimp only; refine Nat.le_trans ?_ (Nat.le_add_right _ _)) | with_reducible refine Nat.le_trans ?_ (Nat.le_add_right _ _) | (with_reducible refine bstep ?_ (by assumption))))))).mono ?_; rintro e w1 ⟨rfl, hb1⟩; have ha1 := hb1; obtain ⟨kc1, kf1, kz1, ky1, kx1, kv1, ku1⟩ := bcell hb1)
    (go_wp2_with fail; refine (HA.out _ (HT.out _ (by (repeat (first | with_reducible exact Below.refl _ _ | with_reducible assumption | with_reducible refine balloc ?_ _ | with_reducible refine bdrew ?_ | with_reducible refine below_drewN ?_ _ | with_reducible refine bset ?_ ?_ _ | with_reducible exact Nat.le_refl _ | with_reducible refine bsize ?_ | (dsimp only; refine Nat.le_trans ?_ (Nat.le_add_right _ _)) | with_reducible refine Nat.le_trans ?_ (Nat.le_add_right _ _) | (with_reducible refine bstep ?_ (by assumption)))))).tab).mono ?_; rintro e w2 ⟨rfl, hb2⟩; have ha2 := bjoin ha1 hb2 (by (repeat (first | with_reducible exact Below.refl _ _ | with_reducible assumption | with_reducible refine balloc ?_ _ | with_reducible refine bdrew ?_ | with_reducible refine below_drewN ?_ _ | with_reducible refine bset ?_ ?_ _ | with_reducible exact Nat.le_refl _ | with_reducible refine bsize ?_ | (dsimp only; refine Nat.le_trans ?_ (Nat.le_add_right _ _)) | with_reducible refine Nat.le_trans ?_ (Nat.le_add_right _ _) | (with_reducible refine bstep ?_ (by assumption))))); obtain ⟨kc2, kf2, kz2, ky2, kx2, kv2, ku2⟩ := bcell hb2; obtain ⟨jc2, jf2, jz2, jy2, jx2, jv2, ju2⟩ := bcell ha2)
    go_wp2
    refine bodyPost_ret (v := .tuple #[.agg #[.int .i64 n, .int .i64 d], .bool true]) (by simp only [results, Tryd.results11]; go_simp) rfl ⟨rfl, ?_⟩
    (repeat (first | with_reducible exact Below.refl _ _ | with_reducible assumption | with_reducible refine balloc ?_ _ | with_reducible refine bdrew ?_ | with_reducible refine below_drewN ?_ _ | with_reducible refine bset ?_ ?_ _ | with_reducible exact Nat.le_refl _ | with_reducible refine bsize ?_ | (dsimp only; refine Nat.le_trans ?_ (Nat.le_add_right _ _)) | with_reducible refine Nat.le_trans ?_ (Nat.le_add_right _ _) | (with_reducible refine bstep ?_ (by assumption))))
  · obtain ⟨e1, e2, e3⟩ := ap_no _ hc
    rw [e1, e2, e3]
    clear e1 e2 e3
    generalize hn : (raV s.data.toList).1 = n at *
    generalize hd : (raV s.data.toList).2.1 = d at *
    generalize (raV s.data.toList).2.2 = B at *
    clear hn hd
    cases B
    · clear hc HA
      go_enter Tryd.func11, Tryd.ntmps11
      (go_wp2_with fail; refine (HR.out _ (HT.out _ (by (repeat (first | with_reducible exact Below.refl _ _ | with_reducible assumption | with_reducible refine balloc ?_ _ | with_reducible refine bdrew ?_ | with_reducible refine below_drewN ?_ _ | with_reducible refine bset ?_ ?_ _ | with_reducible exact Nat.le_refl _ | with_reducible refine bsize ?_ | (dsimp only; refine Nat.le_trans ?_ (Nat.le_add_right _ _)) | with_reducible refine Nat.le_trans ?_ (Nat.le_add_right _ _) | (with_reducible refine bstep ?_ (by assumption))))))).mono ?_; rintro e w1 ⟨rfl, hb1⟩; have ha1 := hb1; obtain ⟨kc1, kf1, kz1, ky1, kx1, kv1, ku1⟩ := bcell hb1)
      go_wp2
      refine bodyPost_ret (v := .tuple #[.agg #[.int .i64 0, .int .i64 0], .bool false]) (by simp only [results, Tryd.results11]; go_simp) rfl ⟨rfl, ?_⟩
      (repeat (first | with_reducible exact Below.refl _ _ | with_reducible assumption | with_reducible refine balloc ?_ _ | with_reducible refine bdrew ?_ | with_reducible refine below_drewN ?_ _ | with_reducible refine bset ?_ ?_ _ | with_reducible exact Nat.le_refl _ | with_reducible refine bsize ?_ | (dsimp only; refine Nat.le_trans ?_ (Nat.le_add_right _ _)) | with_reducible refine Nat.le_trans ?_ (Nat.le_add_right _ _) | (with_reducible refine bstep ?_ (by assumption))))
    · cases hB : shB n d
      · rw [hB] at HA
        generalize atS n d = A at *
        clear hc hB
        go_enter Tryd.func11, Tryd.ntmps11
        (go_wp2_with fail; refine (HR.out _ (HT.out _ (by (repeat (first | with_reducible exact Below.refl _ _ | with_reducible assumption | with_reducible refine balloc ?_ _ | with_reducible refine bdrew ?_ | with_reducible refine below_drewN ?_ _ | with_reducible refine bset ?_ ?_ _ | with_reducible exact Nat.le_refl _ | with_reducible refine bsize ?_ | (dsimp only; refine Nat.le_trans ?_ (Nat.le_add_right _ _)) | with_reducible refine Nat.le_trans ?_ (Nat.le_add_right _ _) | (with_reducible refine bstep ?_ (by assumption))))))).mono ?_; rintro e w1 ⟨rfl, hb1⟩; have ha1 := hb1; obtain ⟨kc1, kf1, kz1, ky1, kx1, kv1, ku1⟩ := bcell hb1)
        (go_wp2_with fail; refine (HA.out _ (HT.out _ (by (repeat (first | with_reducible exact Below.refl _ _ | with_reducible assumption | with_reducible refine balloc ?_ _ | with_reducible refine bdrew ?_ | with_reducible refine below_drewN ?_ _ | with_reducible refine bset ?_ ?_ _ | with_reducible exact Nat.le_refl _ | with_reducible refine bsize ?_ | (dsimp only; refine Nat.le_trans ?_ (Nat.le_add_right _ _)) | with_reducible refine Nat.le_trans ?_ (Nat.le_add_right _ _) | (with_reducible refine bstep ?_ (by assumption)))))).tab).mono ?_; rintro e w2 ⟨rfl, hb2⟩; have ha2 := bjoin ha1 hb2 (by (repeat (first | with_reducible exact Below.refl _ _ | with_reducible assumption | with_reducible refine balloc ?_ _ | with_reducible refine bdrew ?_ | with_reducible refine below_drewN ?_ _ | with_reducible refine bset ?_ ?_ _ | with_reducible exact Nat.le_refl _ | with_reducible refine bsize ?_ | (dsimp only; refine Nat.le_trans ?_ (Nat.le_add_right _ _)) | with_reducible refine Nat.le_trans ?_ (Nat.le_add_right _ _) | (with_reducible refine bstep ?_ (by assumption))))); obtain ⟨kc2, kf2, kz2, ky2, kx2, kv2, ku2⟩ := bcell hb2; obtain ⟨jc2, jf2, jz2, jy2, jx2, jv2, ju2⟩ := bcell ha2)
        go_wp2
        refine bodyPost_ret (v := .tuple #[.agg #[.int .i64 0, .int .i64 0], .bool false]) (by simp only [results, Tryd.results11]; go_simp) rfl ⟨rfl, ?_⟩
        (repeat (first | with_reducible exact Below.refl _ _ | with_reducible assumption | with_reducible refine balloc ?_ _ | with_reducible refine bdrew ?_ | with_reducible refine below_drewN ?_ _ | with_reducible refine bset ?_ ?_ _ | with_reducible exact Nat.le_refl _ | with_reducible refine bsize ?_ | (dsimp only; refine Nat.le_trans ?_ (Nat.le_add_right _ _)) | with_reducible refine Nat.le_trans ?_ (Nat.le_add_right _ _) | (with_reducible refine bstep ?_ (by assumption))))
      · have hne : ¬ atS n d = s := fun e => hc ⟨rfl, hB, by unfold atS at e; rw [if_pos hB] at e; exact (txS_list _ _ s).1 e⟩
        have hne3 : ((atS n d).toList == s.toList) = false := beq_eq_false_iff_ne.mpr (fun e => hne (ByteArray.ext (Array.toList_inj.mp (by rw [← ByteArray.toList_eq, ← ByteArray.toList_eq]; exact e))))
        rw [hB] at HA
        generalize atS n d = A at *
        clear hc hB hne
        go_enter Tryd.func11, Tryd.ntmps11
        (go_wp2_with fail; refine (HR.out _ (HT.out _ (by (repeat (first | with_reducible exact Below.refl _ _ | with_reducible assumption | with_reducible refine balloc ?_ _ | with_reducible refine bdrew ?_ | with_reducible refine below_drewN ?_ _ | with_reducible refine bset ?_ ?_ _ | with_reducible exact Nat.le_refl _ | with_reducible refine bsize ?_ | (dsimp only; refine Nat.le_trans ?_ (Nat.le_add_right _ _)) | with_reducible refine Nat.le_trans ?_ (Nat.le_add_right _ _) | (with_reducible refine bstep ?_ (by assumption))))))).mono ?_; rintro e w1 ⟨rfl, hb1⟩; have ha1 := hb1; obtain ⟨kc1, kf1, kz1, ky1, kx1, kv1, ku1⟩ := bcell hb1)
        (go_wp2_with fail; refine (HA.out _ (HT.out _ (by (repeat (first | with_reducible exact Below.refl _ _ | with_reducible assumption | with_reducible refine balloc ?_ _ | with_reducible refine bdrew ?_ | with_reducible refine below_drewN ?_ _ | with_reducible refine bset ?_ ?_ _ | with_reducible exact Nat.le_refl _ | with_reducible refine bsize ?_ | (dsimp only; refine Nat.le_trans ?_ (Nat.le_add_right _ _)) | with_reducible refine Nat.le_trans ?_ (Nat.le_add_right _ _) | (with_reducible refine bstep ?_ (by assumption)))))).tab).mono ?_; rintro e w2 ⟨rfl, hb2⟩; have ha2 := bjoin ha1 hb2 (by (repeat (first | with_reducible exact Below.refl _ _ | with_reducible assumption | with_reducible refine balloc ?_ _ | with_reducible refine bdrew ?_ | with_reducible refine below_drewN ?_ _ | with_reducible refine bset ?_ ?_ _ | with_reducible exact Nat.le_refl _ | with_reducible refine bsize ?_ | (dsimp only; refine Nat.le_trans ?_ (Nat.le_add_right _ _)) | with_reducible refine Nat.le_trans ?_ (Nat.le_add_right _ _) | (with_reducible refine bstep ?_ (by assumption))))); obtain ⟨kc2, kf2, kz2, ky2, kx2, kv2, ku2⟩ := bcell hb2; obtain ⟨jc2, jf2, jz2, jy2, jx2, jv2, ju2⟩ := bcell ha2)
        go_wp2_with first | (rw [hne3]; rfl) | fail
        all_goals first | (exfalso; rename_i h; rw [hne3] at h; exact absurd h (by decide)) | skip
        refine bodyPost_ret (v := .tuple #[.agg #[.int .i64 0, .int .i64 0], .bool false]) (by simp only [results, Tryd.results11]; go_simp) rfl ⟨rfl, ?_⟩
        (repeat (first | with_reducible exact Below.refl _ _ | with_reducible assumption | with_reducible refine balloc ?_ _ | with_reducible refine bdrew ?_ | with_reducible refine below_drewN ?_ _ | with_reducible refine bset ?_ ?_ _ | with_reducible exact Nat.le_refl _ | with_reducible refine bsize ?_ | (dsimp only; refine Nat.le_trans ?_ (Nat.le_add_right _ _)) | with_reducible refine Nat.le_trans ?_ (Nat.le_add_right _ _) | (with_reducible refine bstep ?_ (by assumption))))
end Go.Proofs.YtffafiidblamkaaDoor
