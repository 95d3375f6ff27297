/- ParseStep of the program: plain facts, the walk. -/
import Derived.Test.YtffafiidblamkaaDoorStepB
import Derived.Test.YtffafiidblamkaaDoorParseI
import Derived.Test.YtffafiidblamkaaDoorParseS
import Derived.Test.YtffafiidblamkaaDoorOrd
import Derived.Deep.RegionHeldLaw
namespace Go.Proofs.YtffafiidblamkaaDoor
open Go.ChangeShapes Go.WideShapes Go.ChangeAt Go.RowKit Go.Joins
set_option maxRecDepth 100000
set_option linter.unusedVariables false
set_option linter.unusedSimpArgs false

/-- The kind of a letter, or -1. -/
def kdI (c : UInt8) : Int := Lib.indexByte [102, 98, 108, 116] c
def psB : List UInt8 → Bool
  | [] => false
  | c :: r => apB r && (decide (0 ≤ kdI c) && decide (0 < apN r))
def psK (l : List UInt8) : Int := if psB l = true then kdI (l.headD 0) else 0
def psN (l : List UInt8) : Int := if psB l = true then apN l.tail else 0
def psD (l : List UInt8) : Int := if psB l = true then apD l.tail else 0
theorem ps_no (l : List UInt8) (h : psB l = false) : psK l = 0 ∧ psN l = 0 ∧ psD l = 0 := by simp [psK, psN, psD, h]
theorem ps_yes (c : UInt8) (r : List UInt8) (h : psB (c :: r) = true) : psK (c :: r) = kdI c ∧ psN (c :: r) = apN r ∧ psD (c :: r) = apD r := by simp [psK, psN, psD, h]
theorem kd_cases (c : UInt8) : (c = 102 ∧ kdI c = 0) ∨ (c = 98 ∧ kdI c = 1) ∨ (c = 108 ∧ kdI c = 2) ∨ (c = 116 ∧ kdI c = 3) ∨ (c ≠ 102 ∧ c ≠ 98 ∧ c ≠ 108 ∧ c ≠ 116 ∧ kdI c = -1) := by
  by_cases h1 : c = 102
  · subst h1; exact Or.inl ⟨rfl, by decide⟩
  by_cases h2 : c = 98
  · subst h2; exact Or.inr (Or.inl ⟨rfl, by decide⟩)
  by_cases h3 : c = 108
  · subst h3; exact Or.inr (Or.inr (Or.inl ⟨rfl, by decide⟩))
  by_cases h4 : c = 116
  · subst h4; exact Or.inr (Or.inr (Or.inr (Or.inl ⟨rfl, by decide⟩)))
  · refine Or.inr (Or.inr (Or.inr (Or.inr ⟨h1, h2, h3, h4, ixb_no c _ ?_⟩)))
    simp [h1, h2, h3, h4]
theorem ap_am (l : List UInt8) (h : apB l = true) : amB (apN l) (apD l) = true := by
  unfold apB at h
  obtain ⟨⟨n, d⟩, hv⟩ := Option.isSome_iff_exists.1 h
  have hs := (ap_sound l n d hv).1
  obtain ⟨e1, e2, _⟩ := ap_some l n d hv
  rw [e1, e2]
  exact (shB_parts n d hs).1
theorem ap_nil : apB [] = false := by decide +kernel
theorem ap_long (l : List UInt8) (h : 20 < l.length) : apB l = false := (ap_none l (by unfold apV; rw [if_pos h])).2.2
/-- A text taken apart: its first byte, and the others. -/
theorem text_parts (s : ByteArray) (h : 0 < s.size) : ∃ (c : UInt8) (r : List UInt8), s.data.toList = c :: r ∧ r.length + 1 = s.size ∧ s.extract 1 s.size = ⟨r.toArray⟩ ∧ s[0]'h = c := by
  have hl := size_len s
  cases hs : s.data.toList with
  | nil => rw [hs] at hl; simp at hl; omega
  | cons c r =>
    refine ⟨c, r, rfl, by rw [hs] at hl; simpa using hl, ?_, ?_⟩
    · rw [extract_is, hs]
      rw [hs] at hl
      simp at hl
      rw [List.take_of_length_le (by simp; omega)]
      rfl
    · have h0 : s.data.toList[0]'(by rw [hl]; exact h) = c := by simp [hs]
      exact h0
theorem indexByte_impl (c : UInt8) (w : World) :
    Calls Tryd.prog 30 #[.string { data := #[102, 98, 108, 116] }, .int .u8 (c.toNat : Int)] w fun e w' => e = .returned (.int .i64 (kdI c)) ∧ w = w' := by
  refine (Tryd.strings_IndexByte _ _ w).mono ?_
  rintro e w' ⟨rfl, rfl⟩
  refine ⟨?_, rfl⟩
  have e1 : ((c.toNat : Int).toNat).toUInt8 = c := by simp
  rw [e1]; rfl
set_option maxHeartbeats 6400000 in
theorem parseStep_impl (s : ByteArray) (hs : s.size ≤ 1048576) (w : World) (he : EnvOk w) :
    Calls Tryd.prog 17 #[.string s] w fun e w' => e = .returned (.tuple #[.agg #[.int .i64 (psK s.data.toList), .int .i64 (psN s.data.toList), .int .i64 (psD s.data.toList)], .bool (psB s.data.toList)]) ∧ Below w.heap.size w w' := by
  by_cases h0 : s.size = 0
  · have e : s = { data := #[] } := by
      have hl := size_len s
      rw [h0] at hl
      have := List.length_eq_zero_iff.1 hl
      exact ByteArray.ext (Array.toList_inj.mp this)
    subst e
    clear he
    go_enter Tryd.func17, Tryd.ntmps17
    go_wp2
    refine bodyPost_ret (v := .tuple #[.agg #[.int .i64 0, .int .i64 0, .int .i64 0], .bool false]) (by simp only [results, Tryd.results17]; go_simp) rfl ⟨rfl, ?_⟩
    (repeat (first | with_reducible exact Below.refl _ _ | with_reducible assumption | with_reducible refine balloc ?_ _ | with_reducible refine bdrew ?_ | with_reducible refine below_drewN ?_ _ | with_reducible refine bset ?_ ?_ _ | with_reducible exact Nat.le_refl _ | with_reducible refine bsize ?_ | (dsimp only; refine Nat.le_trans ?_ (Nat.le_add_right _ _)) | with_reducible refine Nat.le_trans ?_ (Nat.le_add_right _ _) | (with_reducible refine bstep ?_ (by assumption))))
  · obtain ⟨c, r, hsl, hrl, hex, hc⟩ := text_parts s (by omega)
    have hrs : (⟨r.toArray⟩ : ByteArray).size ≤ 1048576 := by show r.toArray.size ≤ _; simp; omega
    have HT := Lib.hid (fun (W : World) (h : Below w.heap.size w W) => env_on he h)
    have HP := Lib.hid (fun W t => parse_impl ⟨r.toArray⟩ hrs W t)
    have HK := Lib.hid (fun W => indexByte_impl c W)
    have hne : s.toList.isEmpty = false := by rw [ByteArray.toList_eq, hsl]; rfl
    rw [hsl]
    have e0 : ({ data := r.toArray } : ByteArray).data.toList = r := rfl
    rw [e0] at HP
    clear he e0
    generalize ({ data := r.toArray } : ByteArray) = R at *
    have hz : 0 < s.size := by omega
    have hw1 : IntKind.i64.wrap 1 = 1 := by decide
    have hF : (apB r = false → psK (c :: r) = 0 ∧ psN (c :: r) = 0 ∧ psD (c :: r) = 0 ∧ psB (c :: r) = false) ∧ (apB r = true → stB (kdI c) (apN r) (apD r) = false → psK (c :: r) = 0 ∧ psN (c :: r) = 0 ∧ psD (c :: r) = 0 ∧ psB (c :: r) = false) ∧
        (apB r = true → stB (kdI c) (apN r) (apD r) = true → psK (c :: r) = kdI c ∧ psN (c :: r) = apN r ∧ psD (c :: r) = apD r ∧ psB (c :: r) = true) := by
      have hk3 : kdI c ≤ 3 := by rcases kd_cases c with h | h | h | h | h <;> omega
      have hst : apB r = true → stB (kdI c) (apN r) (apD r) = psB (c :: r) := fun hB => by
        simp only [stB, psB, hB, ap_am r hB, Bool.true_and]
        congr 1
        simp; omega
      refine ⟨fun hB => ?_, fun hB hq => ?_, fun hB hq => ?_⟩
      · have hp : psB (c :: r) = false := by simp [psB, hB]
        obtain ⟨e1, e2, e3⟩ := ps_no _ hp
        exact ⟨e1, e2, e3, hp⟩
      · have hp : psB (c :: r) = false := by rw [← hst hB]; exact hq
        obtain ⟨e1, e2, e3⟩ := ps_no _ hp
        exact ⟨e1, e2, e3, hp⟩
      · have hp : psB (c :: r) = true := by rw [← hst hB]; exact hq
        obtain ⟨e1, e2, e3⟩ := ps_yes c r hp
        exact ⟨e1, e2, e3, hp⟩
    have hbd : (-9223372036854775808 ≤ apN r ∧ apN r ≤ 9223372036854775807) ∧ -9223372036854775808 ≤ apD r ∧ apD r ≤ 9223372036854775807 := by
      cases hB : apB r
      · have h := ap_none r (by unfold apB at hB; simpa using hB)
        rw [h.1, h.2.1]; omega
      · have := (amB_iff _ _).1 (ap_am r hB); omega
    have HS := Lib.hid (fun W => isStep_impl (kdI c) (apN r) (apD r) hbd.1 hbd.2 W)
    generalize stB (kdI c) (apN r) (apD r) = q at *
    generalize psK (c :: r) = K at *
    generalize psN (c :: r) = N at *
    generalize psD (c :: r) = M at *
    generalize psB (c :: r) = Q at *
    generalize apN r = n at *
    generalize apD r = d at *
    generalize apB r = B at *
    generalize kdI c = k at *
    have HF := Lib.hid hF
    clear hF hbd
    go_enter Tryd.func17, Tryd.ntmps17
    (go_wp2_with fail; refine (HP.out _ (HT.out _ (by (repeat (first | with_reducible exact Below.refl _ _ | with_reducible assumption | with_reducible refine balloc ?_ _ | with_reducible refine bdrew ?_ | with_reducible refine below_drewN ?_ _ | with_reducible refine bset ?_ ?_ _ | with_reducible exact Nat.le_refl _ | with_reducible refine bsize ?_ | (dsimp only; refine Nat.le_trans ?_ (Nat.le_add_right _ _)) | with_reducible refine Nat.le_trans ?_ (Nat.le_add_right _ _) | (with_reducible refine bstep ?_ (by assumption))))))).mono ?_; rintro e w1 ⟨rfl, hb1⟩; have ha1 := hb1; obtain ⟨kc1, kf1, kz1, ky1, kx1, kv1, ku1⟩ := bcell hb1)
    have z0 : w.heap.size < w1.heap.size := kz1 _ (by simp)
    have r0 : w1.cell? ⟨w.heap.size, 0, none⟩ = some (.int .i64 0) := by rw [kc1 _ _ (by simp)]; simp [go_sem]
    have t0 : w1.frozen? ⟨w.heap.size, 0, none⟩ = false := by rw [kf1 _ _ (by simp)]; simp [go_sem]
    have r1 : w1.cell? ⟨w.heap.size, 1, none⟩ = some (.int .i64 0) := by rw [kc1 _ _ (by simp)]; simp [go_sem]
    have t1 : w1.frozen? ⟨w.heap.size, 1, none⟩ = false := by rw [kf1 _ _ (by simp)]; simp [go_sem]
    have r2 : w1.cell? ⟨w.heap.size, 2, none⟩ = some (.int .i64 0) := by rw [kc1 _ _ (by simp)]; simp [go_sem]
    have t2 : w1.frozen? ⟨w.heap.size, 2, none⟩ = false := by rw [kf1 _ _ (by simp)]; simp [go_sem]
    have bel1 : Below w.heap.size w w1 := by (repeat (first | with_reducible exact Below.refl _ _ | with_reducible assumption | with_reducible refine balloc ?_ _ | with_reducible refine bdrew ?_ | with_reducible refine below_drewN ?_ _ | with_reducible refine bset ?_ ?_ _ | with_reducible exact Nat.le_refl _ | with_reducible refine bsize ?_ | (dsimp only; refine Nat.le_trans ?_ (Nat.le_add_right _ _)) | with_reducible refine Nat.le_trans ?_ (Nat.le_add_right _ _) | (with_reducible refine bstep ?_ (by assumption))))
    clear kc1 kf1 kz1 ky1 kx1 kv1 ku1 hb1 ha1 HT HP
    go_upto_region 4 with fail
    first | (go_region_with (go_at_call 30; refine (HK.out _).mono ?_; rintro e w0 ⟨rfl, rfl⟩)) | fail
    all_goals
      cases B
      · obtain ⟨f1, f2, f3, f4⟩ := HF.out.1 (by simp)
        go_wp2
        refine bodyPost_ret (v := .tuple #[.agg #[.int .i64 0, .int .i64 0, .int .i64 0], .bool false]) (by simp only [results, Tryd.results17]; go_simp) rfl ⟨by first | rfl | rw [f1, f2, f3, f4], ?_⟩
        (repeat (first | with_reducible exact Below.refl _ _ | with_reducible assumption | with_reducible refine balloc ?_ _ | with_reducible refine bdrew ?_ | with_reducible refine below_drewN ?_ _ | with_reducible refine bset ?_ ?_ _ | with_reducible exact Nat.le_refl _ | with_reducible refine bsize ?_ | (dsimp only; refine Nat.le_trans ?_ (Nat.le_add_right _ _)) | with_reducible refine Nat.le_trans ?_ (Nat.le_add_right _ _) | (with_reducible refine bstep ?_ (by assumption))))
      · go_wp2_with fail
        refine (HS.out _).mono ?_
        rintro e w2 ⟨rfl, hb2⟩
        have r02 : w2.cell? ⟨w.heap.size, 0, none⟩ = some (.int .i64 0) := keepa hb2 (by simp; omega) (by simp [go_sem, r0, z0])
        have t02 : w2.frozen? ⟨w.heap.size, 0, none⟩ = false := keepf hb2 (by simp; omega) (by simp [go_sem, t0, z0])
        have r12 : w2.cell? ⟨w.heap.size, 1, none⟩ = some (.int .i64 0) := keepa hb2 (by simp; omega) (by simp [go_sem, r1, z0])
        have t12 : w2.frozen? ⟨w.heap.size, 1, none⟩ = false := keepf hb2 (by simp; omega) (by simp [go_sem, t1, z0])
        have r22 : w2.cell? ⟨w.heap.size, 2, none⟩ = some (.int .i64 0) := keepa hb2 (by simp; omega) (by simp [go_sem, r2, z0])
        have t22 : w2.frozen? ⟨w.heap.size, 2, none⟩ = false := keepf hb2 (by simp; omega) (by simp [go_sem, t2, z0])
        have s02 : w2.cell? ⟨w1.heap.size + 1, 0, none⟩ = some (.int .i64 k) := keepa hb2 (by simp) (by simp [go_sem])
        have s12 : w2.cell? ⟨w1.heap.size + 1, 1, none⟩ = some (.int .i64 n) := keepa hb2 (by simp) (by simp [go_sem])
        have s22 : w2.cell? ⟨w1.heap.size + 1, 2, none⟩ = some (.int .i64 d) := keepa hb2 (by simp) (by simp [go_sem])
        have z2 : w.heap.size < w2.heap.size := Nat.lt_of_lt_of_le (by simp; omega) hb2.size
        have bel2 : Below w.heap.size w w2 := by (repeat (first | with_reducible exact Below.refl _ _ | with_reducible assumption | with_reducible refine balloc ?_ _ | with_reducible refine bdrew ?_ | with_reducible refine below_drewN ?_ _ | with_reducible refine bset ?_ ?_ _ | with_reducible exact Nat.le_refl _ | with_reducible refine bsize ?_ | (dsimp only; refine Nat.le_trans ?_ (Nat.le_add_right _ _)) | with_reducible refine Nat.le_trans ?_ (Nat.le_add_right _ _) | (with_reducible refine bstep ?_ (by assumption))))
        clear hb2
        cases q
        · obtain ⟨f1, f2, f3, f4⟩ := HF.out.2.1 (by simp) (by simp)
          go_wp2
          refine bodyPost_ret (v := .tuple #[.agg #[.int .i64 0, .int .i64 0, .int .i64 0], .bool false]) (by simp only [results, Tryd.results17]; go_simp) rfl ⟨by first | rfl | rw [f1, f2, f3, f4], ?_⟩
          (repeat (first | with_reducible exact Below.refl _ _ | with_reducible assumption | with_reducible refine balloc ?_ _ | with_reducible refine bdrew ?_ | with_reducible refine below_drewN ?_ _ | with_reducible refine bset ?_ ?_ _ | with_reducible exact Nat.le_refl _ | with_reducible refine bsize ?_ | (dsimp only; refine Nat.le_trans ?_ (Nat.le_add_right _ _)) | with_reducible refine Nat.le_trans ?_ (Nat.le_add_right _ _) | (with_reducible refine bstep ?_ (by assumption))))
        · obtain ⟨f1, f2, f3, f4⟩ := HF.out.2.2 (by simp) (by simp)
          go_wp2
          refine bodyPost_ret (v := .tuple #[.agg #[.int .i64 k, .int .i64 n, .int .i64 d], .bool true]) (by simp only [results, Tryd.results17]; go_simp) rfl ⟨by first | rfl | rw [f1, f2, f3, f4], ?_⟩
          (repeat (first | with_reducible exact Below.refl _ _ | with_reducible assumption | with_reducible refine balloc ?_ _ | with_reducible refine bdrew ?_ | with_reducible refine below_drewN ?_ _ | with_reducible refine bset ?_ ?_ _ | with_reducible exact Nat.le_refl _ | with_reducible refine bsize ?_ | (dsimp only; refine Nat.le_trans ?_ (Nat.le_add_right _ _)) | with_reducible refine Nat.le_trans ?_ (Nat.le_add_right _ _) | (with_reducible refine bstep ?_ (by assumption))))
end Go.Proofs.YtffafiidblamkaaDoor
