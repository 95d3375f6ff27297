/- Mean speeds: plain facts; of the program. -/
import Derived.Test.YtbaaaaceejgofaaCavA
import Derived.Test.YtbaaaaceejgofaaCavM
import Derived.Test.YtbaaaaceejgofaaRes8
import Derived.Test.YtbaaaaceejgofaaJeep
import Derived.Test.YtbaaaaceejgofaaRowS
import Derived.Test.YtbaaaaceejgofaaApp
import Derived.Test.YtbaaaaceejgofaaReck4
import Derived.Test.YtbaaaaceejgofaaCavL
namespace Go.Proofs.Ytbaaaaceejgofaa
open Go.ChangeShapes Go.WideShapes Go.ChangeAt Go.RowKit Go.Joins
set_option maxRecDepth 100000
set_option linter.unusedVariables false
set_option linter.unusedSimpArgs false

def msK (ws ss : List Int) : Bool := inB (ws.length : Int) 1 8 && decide (ws.length = ss.length) && ws.all trP && ss.all trP
/-- The times of the parts. -/
def msT (ws ss : List Int) : List (Int × Int) := List.zipWith (fun x s => (lowN x s, lowD x s)) ws ss
def msS (ws ss : List Int) : Option (Int × Int) := sumL (msT ws ss) 0 1
def msU (ws : List Int) : Int := upTo ws ws.length
def msB (ws ss : List Int) : Bool := msK ws ss && oB (msS ws ss)
def msAN (ws ss : List Int) : Int := twoN (msB ws ss) (msU ws * oD (msS ws ss)) (oN (msS ws ss))
def msAD (ws ss : List Int) : Int := twoD (msB ws ss) (msU ws * oD (msS ws ss)) (oN (msS ws ss))
def msAB (ws ss : List Int) : Bool := twoB (msB ws ss) (msU ws * oD (msS ws ss)) (oN (msS ws ss))
theorem ms_no {ws ss : List Int} (h : msB ws ss = false) : msAN ws ss = 0 ∧ msAD ws ss = 0 ∧ msAB ws ss = false := by
  unfold msAN msAD msAB; exact nolow8 _ _ _ h
theorem ms_yes {ws ss : List Int} (h : msB ws ss = true) : msAN ws ss = lowN (msU ws * oD (msS ws ss)) (oN (msS ws ss)) ∧ msAD ws ss = lowD (msU ws * oD (msS ws ss)) (oN (msS ws ss)) ∧ msAB ws ss = lowB (msU ws * oD (msS ws ss)) (oN (msS ws ss)) := by
  unfold msAN msAD msAB; rw [h]; exact two_yes _ _
structure MsOk (ws ss : List Int) : Prop where
  l1 : 1 ≤ ws.length
  l8 : ws.length ≤ 8
  le : ws.length = ss.length
  w : ∀ x ∈ ws, 1 ≤ x ∧ x ≤ 1000
  s : ∀ x ∈ ss, 1 ≤ x ∧ x ≤ 1000
theorem msK_yes {ws ss : List Int} (h : msK ws ss = true) : MsOk ws ss := by
  unfold msK at h
  simp only [Bool.and_eq_true] at h
  obtain ⟨⟨⟨h1, h2⟩, h3⟩, h4⟩ := h
  have h1' : 1 ≤ (ws.length : Int) ∧ (ws.length : Int) ≤ 8 := by simpa [inB] using h1
  exact ⟨by omega, by omega, by simpa using h2, fun x hx => trP_yes (List.all_eq_true.1 h3 x hx), fun x hx => trP_yes (List.all_eq_true.1 h4 x hx)⟩
theorem msT_len {ws ss : List Int} (h : MsOk ws ss) : (msT ws ss).length = ws.length := by
  unfold msT; rw [List.length_zipWith, h.le]; omega
theorem msT_get {ws ss : List Int} {k : Nat} {x s : Int} (hx : ws[k]? = some x) (hs : ss[k]? = some s) : (msT ws ss)[k]? = some (lowN x s, lowD x s) := by
  unfold msT; rw [List.getElem?_zipWith, hx, hs]
theorem msT_take {ws ss : List Int} {k : Nat} {x s : Int} (hx : ws[k]? = some x) (hs : ss[k]? = some s) : (msT ws ss).take (k + 1) = (msT ws ss).take k ++ [(lowN x s, lowD x s)] := by
  rw [List.take_add_one, msT_get hx hs]; rfl
theorem msT_drop {ws ss : List Int} {k : Nat} {x s : Int} (hx : ws[k]? = some x) (hs : ss[k]? = some s) : (msT ws ss).drop k = (lowN x s, lowD x s) :: (msT ws ss).drop (k + 1) := by
  have h := msT_get hx hs
  obtain ⟨hl, he⟩ := List.getElem?_eq_some_iff.1 h
  rw [List.drop_eq_getElem_cons hl, he]
theorem ms_part {x s : Int} (hx : 1 ≤ x ∧ x ≤ 1000) (hs : 1 ≤ s ∧ s ≤ 1000) : lowB x s = true ∧ amB (lowN x s) (lowD x s) = true := by
  have h := low_small x s (by omega) (by omega) (by omega) (by omega)
  exact ⟨h, amB_low _ _ h⟩
theorem msU_bd {ws ss : List Int} (h : MsOk ws ss) : 0 ≤ msU ws ∧ msU ws ≤ 8000 := by
  have := upTo_bd ws 1000 (by omega) (fun x hx => by have := h.w x hx; omega) ws.length
  have h8 := h.l8
  unfold msU
  have e : (ws.length : Int) * 1000 ≤ 8 * 1000 := Int.mul_le_mul_of_nonneg_right (by omega) (by omega)
  omega
/-- A sum that is told is an amount, greater than 0 if one part is. -/
theorem sumL_am : ∀ (l : List (Int × Int)) (x y : Int), amB x y = true → ∀ p, sumL l x y = some p → amB p.1 p.2 = true
  | [], x, y, h, p, hp => by simp [sumL] at hp; subst hp; exact h
  | a :: l, x, y, h, p, hp => by
    unfold sumL at hp
    split at hp
    · next hc =>
      rw [Bool.and_eq_true] at hc
      exact sumL_am l _ _ (amB_low _ _ hc.2) p hp
    · cases hp
theorem sumL_pos : ∀ (l : List (Int × Int)) (x y : Int), amB x y = true → 0 < x → (∀ a ∈ l, 0 < a.1) → ∀ p, sumL l x y = some p → 0 < p.1
  | [], x, y, _, h, _, p, hp => by simp [sumL] at hp; subst hp; exact h
  | a :: l, x, y, ha, h, hall, p, hp => by
    unfold sumL at hp
    split at hp
    · next hc =>
      rw [Bool.and_eq_true] at hc
      have A1 := am_of x y ha
      have A2 := am_of a.1 a.2 hc.1
      refine sumL_pos l _ _ (amB_low _ _ hc.2) ?_ (fun b hb => hall b (List.mem_cons_of_mem _ hb)) p hp
      have e := low_eq _ _ hc.2
      have m1 : 0 < x * a.2 := Int.mul_pos h (by have := A2.c; omega)
      have m2 : 0 ≤ a.1 * y := Int.mul_nonneg A2.a (by have := A1.c; omega)
      have m3 : 0 < y * a.2 := Int.mul_pos (by have := A1.c; omega) (by have := A2.c; omega)
      have m4 : 0 < (x * a.2 + a.1 * y) * lowD (x * a.2 + a.1 * y) (y * a.2) := Int.mul_pos (by omega) (by omega)
      rw [← e.1] at m4
      exact Int.pos_of_mul_pos_left m4 m3
    · cases hp
theorem ms_sum {ws ss : List Int} (h : MsOk ws ss) {p : Int × Int} (hp : msS ws ss = some p) : amB p.1 p.2 = true ∧ 0 < p.1 := by
  refine ⟨sumL_am _ _ _ (am_whole 0 (by omega) (by omega)) p hp, ?_⟩
  have hall : ∀ a ∈ msT ws ss, 0 < a.1 := by
    intro a ha
    obtain ⟨k, hk, rfl⟩ := List.mem_iff_getElem.1 ha
    have hk2 : k < ws.length := by rw [msT_len h] at hk; exact hk
    have hk3 : k < ss.length := by rw [← h.le]; exact hk2
    have hx := List.getElem?_eq_getElem hk2
    have hs := List.getElem?_eq_getElem hk3
    have hg := msT_get hx hs
    have hgk := List.getElem?_eq_getElem hk
    rw [hgk] at hg
    injection hg with hg
    rw [hg]
    have b1 := h.w _ (List.getElem_mem hk2)
    have b2 := h.s _ (List.getElem_mem hk3)
    have hb := (ms_part b1 b2).1
    have e := low_eq _ _ hb
    have m : 0 < ws[k] * lowD ws[k] ss[k] := Int.mul_pos (by omega) (by omega)
    rw [← e.1] at m
    exact Int.pos_of_mul_pos_left m (by omega)
  have hne : ∃ a l, msT ws ss = a :: l := by
    cases hm : msT ws ss with
    | nil => have := msT_len h; rw [hm] at this; simp at this; have := h.l1; omega
    | cons a l => exact ⟨a, l, rfl⟩
  obtain ⟨a, l, hm⟩ := hne
  unfold msS at hp
  rw [hm] at hp hall
  unfold sumL at hp
  split at hp
  · next hc =>
    rw [Bool.and_eq_true] at hc
    have A2 := am_of a.1 a.2 hc.1
    have ha := hall a (List.mem_cons_self ..)
    refine sumL_pos l _ _ (amB_low _ _ hc.2) ?_ (fun b hb => hall b (List.mem_cons_of_mem _ hb)) p hp
    have e := low_eq _ _ hc.2
    rw [Int.zero_mul, Int.zero_add, Int.mul_one, Int.one_mul] at e ⊢
    have m4 : 0 < a.1 * lowD a.1 a.2 := Int.mul_pos ha (by omega)
    rw [← e.1] at m4
    exact Int.pos_of_mul_pos_left m4 (by have := A2.c; omega)
  · cases hp
theorem rowG_at {α : Type} {m : Nat} {f : α → List Int} {w W : World} {v : Value} {l : List α} (h : RowG m f w v l) (hb : Below w.heap.size w W) : RowG m f W v l := rowG_below h hb
set_option maxHeartbeats 25600000 in
theorem mean_impl (v1 v2 : Value) (ws ss : List Int) (w : World) (h1 : RowG 1 fInt w v1 ws) (h2 : RowG 1 fInt w v2 ss) :
    Calls Try.prog 10 #[v1, v2] w fun e w' => e = .returned (.tuple #[.agg #[.int .i64 (msAN ws ss), .int .i64 (msAD ws ss)], .bool (msAB ws ss)]) ∧ Below w.heap.size w w' := by
  have HT1 := Lib.hid (fun W (hb : Below w.heap.size w W) => tr_is v1 ws W (rowG_at h1 hb))
  have HT2 := Lib.hid (fun W (hb : Below w.heap.size w W) => tr_is v2 ss W (rowG_at h2 hb))
  have h10 := h1
  have h20 := h2
  obtain ⟨a1, k1, rfl, hc1, hk1⟩ := row_shape h1
  obtain ⟨a2, k2, rfl, hc2, hk2⟩ := row_shape h2
  cases hn : inB (ws.length : Int) 1 8
  · have hz : msB ws ss = false := by simp [msB, msK, hn]
    obtain ⟨e1, e2, e3⟩ := ms_no hz
    rw [e1, e2, e3]; clear e1 e2 e3 hz
    go_enter Try.func10, Try.ntmps10
    go_wp2_with (go_at_call 18; refine (in_impl _ _ _ _).mono ?_; rintro e w9 ⟨rfl, rfl⟩; rw [hn])
    refine bodyPost_ret (v := .tuple #[.agg #[.int .i64 0, .int .i64 0], .bool false]) (by simp only [results, Try.results10]; go_simp) rfl ⟨rfl, ?_⟩
    (repeat (first | with_reducible exact Below.refl _ _ | with_reducible assumption | with_reducible refine balloc ?_ _ | with_reducible refine bdrew ?_ | with_reducible refine below_drewN ?_ _ | with_reducible refine bset ?_ ?_ _ | with_reducible exact Nat.le_refl _ | with_reducible refine bsize ?_ | (dsimp only; refine Nat.le_trans ?_ (Nat.le_add_right _ _)) | with_reducible refine Nat.le_trans ?_ (Nat.le_add_right _ _) | (with_reducible refine bstep ?_ (by assumption))))
  · by_cases hl : ws.length = ss.length
    · have hlh := Lib.hid hl
      have hKe : msK ws ss = (ws.all trP && ss.all trP) := by unfold msK; rw [hn, decide_eq_true hl]; rfl
      rw [← hl] at HT2 hc2 h20 ⊢
      clear hl h1 h2
      cases t1 : ws.all trP
      · have hz : msB ws ss = false := by simp [msB, hKe, t1]
        obtain ⟨e1, e2, e3⟩ := ms_no hz
        rw [e1, e2, e3]; clear e1 e2 e3 hz
        go_enter Try.func10, Try.ntmps10
        go_wp2_with (go_at_call 18; refine (in_impl _ _ _ _).mono ?_; rintro e w9 ⟨rfl, rfl⟩; rw [hn])
        refine (HT1.out _ (by (repeat (first | with_reducible exact Below.refl _ _ | with_reducible assumption | with_reducible refine balloc ?_ _ | with_reducible refine bdrew ?_ | with_reducible refine below_drewN ?_ _ | with_reducible refine bset ?_ ?_ _ | with_reducible exact Nat.le_refl _ | with_reducible refine bsize ?_ | (dsimp only; refine Nat.le_trans ?_ (Nat.le_add_right _ _)) | with_reducible refine Nat.le_trans ?_ (Nat.le_add_right _ _) | (with_reducible refine bstep ?_ (by assumption)))))).mono ?_
        rintro e w1 ⟨rfl, hb1⟩
        rw [t1]
        (have ha1 : Below w.heap.size w w1 := by (repeat (first | with_reducible exact Below.refl _ _ | with_reducible assumption | with_reducible refine balloc ?_ _ | with_reducible refine bdrew ?_ | with_reducible refine below_drewN ?_ _ | with_reducible refine bset ?_ ?_ _ | with_reducible exact Nat.le_refl _ | with_reducible refine bsize ?_ | (dsimp only; refine Nat.le_trans ?_ (Nat.le_add_right _ _)) | with_reducible refine Nat.le_trans ?_ (Nat.le_add_right _ _) | (with_reducible refine bstep ?_ (by assumption)))))
        obtain ⟨kc1, kf1, kz1, ky1, kx1, kv1, ku1⟩ := bcell hb1
        have r1 : w1.cell? ⟨w.heap.size, 0, none⟩ = some (.int .i64 0) := (by rw [kc1 (w.heap.size) _ (by first | (simp; done) | (simp; omega))]; first | (simp; done) | (simp [go_sem]; done)); have r2 : w1.cell? ⟨w.heap.size, 1, none⟩ = some (.int .i64 0) := (by rw [kc1 (w.heap.size) _ (by first | (simp; done) | (simp; omega))]; first | (simp; done) | (simp [go_sem]; done)); have r3 : w1.frozen? ⟨w.heap.size, 0, none⟩ = false := (by rw [kf1 (w.heap.size) _ (by first | (simp; done) | (simp; omega))]; first | (simp; done) | (simp [go_sem]; done)); have r4 : w1.frozen? ⟨w.heap.size, 1, none⟩ = false := (by rw [kf1 (w.heap.size) _ (by first | (simp; done) | (simp; omega))]; first | (simp; done) | (simp [go_sem]; done)); have rz : w.heap.size < w1.heap.size := kz1 (w.heap.size) (by first | (simp; done) | (simp; omega))
        clear kc1 kf1 kz1 ky1 kx1 kv1 ku1 hb1
        go_wp2
        refine bodyPost_ret (v := .tuple #[.agg #[.int .i64 0, .int .i64 0], .bool false]) (by simp only [results, Try.results10]; go_simp) rfl ⟨rfl, ?_⟩
        (repeat (first | with_reducible exact Below.refl _ _ | with_reducible assumption | with_reducible refine balloc ?_ _ | with_reducible refine bdrew ?_ | with_reducible refine below_drewN ?_ _ | with_reducible refine bset ?_ ?_ _ | with_reducible exact Nat.le_refl _ | with_reducible refine bsize ?_ | (dsimp only; refine Nat.le_trans ?_ (Nat.le_add_right _ _)) | with_reducible refine Nat.le_trans ?_ (Nat.le_add_right _ _) | (with_reducible refine bstep ?_ (by assumption))))
      · cases t2 : ss.all trP
        · have hz : msB ws ss = false := by simp [msB, hKe, t2]
          obtain ⟨e1, e2, e3⟩ := ms_no hz
          rw [e1, e2, e3]; clear e1 e2 e3 hz
          go_enter Try.func10, Try.ntmps10
          go_wp2_with (go_at_call 18; refine (in_impl _ _ _ _).mono ?_; rintro e w9 ⟨rfl, rfl⟩; rw [hn])
          refine (HT1.out _ (by (repeat (first | with_reducible exact Below.refl _ _ | with_reducible assumption | with_reducible refine balloc ?_ _ | with_reducible refine bdrew ?_ | with_reducible refine below_drewN ?_ _ | with_reducible refine bset ?_ ?_ _ | with_reducible exact Nat.le_refl _ | with_reducible refine bsize ?_ | (dsimp only; refine Nat.le_trans ?_ (Nat.le_add_right _ _)) | with_reducible refine Nat.le_trans ?_ (Nat.le_add_right _ _) | (with_reducible refine bstep ?_ (by assumption)))))).mono ?_
          rintro e w1 ⟨rfl, hb1⟩
          rw [t1]
          (have ha1 : Below w.heap.size w w1 := by (repeat (first | with_reducible exact Below.refl _ _ | with_reducible assumption | with_reducible refine balloc ?_ _ | with_reducible refine bdrew ?_ | with_reducible refine below_drewN ?_ _ | with_reducible refine bset ?_ ?_ _ | with_reducible exact Nat.le_refl _ | with_reducible refine bsize ?_ | (dsimp only; refine Nat.le_trans ?_ (Nat.le_add_right _ _)) | with_reducible refine Nat.le_trans ?_ (Nat.le_add_right _ _) | (with_reducible refine bstep ?_ (by assumption)))))
          obtain ⟨kc1, kf1, kz1, ky1, kx1, kv1, ku1⟩ := bcell hb1
          have r1 : w1.cell? ⟨w.heap.size, 0, none⟩ = some (.int .i64 0) := (by rw [kc1 (w.heap.size) _ (by first | (simp; done) | (simp; omega))]; first | (simp; done) | (simp [go_sem]; done)); have r2 : w1.cell? ⟨w.heap.size, 1, none⟩ = some (.int .i64 0) := (by rw [kc1 (w.heap.size) _ (by first | (simp; done) | (simp; omega))]; first | (simp; done) | (simp [go_sem]; done)); have r3 : w1.frozen? ⟨w.heap.size, 0, none⟩ = false := (by rw [kf1 (w.heap.size) _ (by first | (simp; done) | (simp; omega))]; first | (simp; done) | (simp [go_sem]; done)); have r4 : w1.frozen? ⟨w.heap.size, 1, none⟩ = false := (by rw [kf1 (w.heap.size) _ (by first | (simp; done) | (simp; omega))]; first | (simp; done) | (simp [go_sem]; done)); have rz : w.heap.size < w1.heap.size := kz1 (w.heap.size) (by first | (simp; done) | (simp; omega))
          clear kc1 kf1 kz1 ky1 kx1 kv1 ku1 hb1
          go_wp2_with fail
          refine (HT2.out _ (by (repeat (first | with_reducible exact Below.refl _ _ | with_reducible assumption | with_reducible refine balloc ?_ _ | with_reducible refine bdrew ?_ | with_reducible refine below_drewN ?_ _ | with_reducible refine bset ?_ ?_ _ | with_reducible exact Nat.le_refl _ | with_reducible refine bsize ?_ | (dsimp only; refine Nat.le_trans ?_ (Nat.le_add_right _ _)) | with_reducible refine Nat.le_trans ?_ (Nat.le_add_right _ _) | (with_reducible refine bstep ?_ (by assumption)))))).mono ?_
          rintro e w2 ⟨rfl, hb2⟩
          rw [t2]
          (have rb : Below w1.heap.size w1 w2 := bstep (by (repeat (first | with_reducible exact Below.refl _ _ | with_reducible assumption | with_reducible refine balloc ?_ _ | with_reducible refine bdrew ?_ | with_reducible refine below_drewN ?_ _ | with_reducible refine bset ?_ ?_ _ | with_reducible exact Nat.le_refl _ | with_reducible refine bsize ?_ | (dsimp only; refine Nat.le_trans ?_ (Nat.le_add_right _ _)) | with_reducible refine Nat.le_trans ?_ (Nat.le_add_right _ _) | (with_reducible refine bstep ?_ (by assumption))))) hb2); replace r1 := keepa rb rz r1; replace r2 := keepa rb rz r2; replace r3 := keepz rb rz r3; replace r4 := keepz rb rz r4; replace rz := Nat.lt_of_lt_of_le rz rb.size; clear rb
          (have ha2 : Below w.heap.size w w2 := by (repeat (first | with_reducible exact Below.refl _ _ | with_reducible assumption | with_reducible refine balloc ?_ _ | with_reducible refine bdrew ?_ | with_reducible refine below_drewN ?_ _ | with_reducible refine bset ?_ ?_ _ | with_reducible exact Nat.le_refl _ | with_reducible refine bsize ?_ | (dsimp only; refine Nat.le_trans ?_ (Nat.le_add_right _ _)) | with_reducible refine Nat.le_trans ?_ (Nat.le_add_right _ _) | (with_reducible refine bstep ?_ (by assumption)))))
          clear hb2
          go_wp2
          refine bodyPost_ret (v := .tuple #[.agg #[.int .i64 0, .int .i64 0], .bool false]) (by simp only [results, Try.results10]; go_simp) rfl ⟨rfl, ?_⟩
          (repeat (first | with_reducible exact Below.refl _ _ | with_reducible assumption | with_reducible refine balloc ?_ _ | with_reducible refine bdrew ?_ | with_reducible refine below_drewN ?_ _ | with_reducible refine bset ?_ ?_ _ | with_reducible exact Nat.le_refl _ | with_reducible refine bsize ?_ | (dsimp only; refine Nat.le_trans ?_ (Nat.le_add_right _ _)) | with_reducible refine Nat.le_trans ?_ (Nat.le_add_right _ _) | (with_reducible refine bstep ?_ (by assumption))))
        · have hK : msK ws ss = true := by rw [hKe, t1, t2]; rfl
          have hO := msK_yes hK
          have hBe : msB ws ss = oB (msS ws ss) := by unfold msB; rw [hK]; rfl
          have hSo := Lib.hid (fun p hp => @ms_sum ws ss hO p hp)
          have hUb := msU_bd hO
          have h8 := hO.l8
          have hl1 := hO.l1
          have hnn := Lib.hid (@ms_no ws ss)
          have hyy := Lib.hid (@ms_yes ws ss)
          generalize msAN ws ss = AN at *
          generalize msAD ws ss = AD at *
          generalize msAB ws ss = AB at *
          obtain ⟨A1, hA1, hL1⟩ : ∃ A, a1 = some A ∧ LiesG 1 fInt w A k1 ws := by
            rcases h10 with ⟨e1, e2⟩ | ⟨A, c, e, hL⟩
            · rw [e2] at hl1; simp at hl1
            · injection e with e1 e2 e3; subst e1 e3; exact ⟨A, rfl, hL⟩
          obtain ⟨A2, hA2, hL2⟩ : ∃ A, a2 = some A ∧ LiesG 1 fInt w A k2 ss := by
            rcases h20 with ⟨e1, e2⟩ | ⟨A, c, e, hL⟩
            · injection e1 with _ e3; omega
            · injection e with e1 e2 e3; subst e1 e3; exact ⟨A, rfl, hL⟩
          subst hA1 hA2
          have HAW := Lib.hid (fun W (hb : Below w.heap.size w W) => sum_is _ ws W (rowG_at (Or.inr ⟨A1, k1, rfl, hL1⟩) hb) (by omega) (fun x hx => by have := hO.w x hx; omega))
          have hUe : msU ws = upTo ws ws.length := rfl
          rw [← hUe] at HAW
          clear hUe
          generalize msU ws = U at *
          have HW := Lib.hid (fun W => whole9 U W)
          obtain ⟨i0, hi, hz0, hz1, hz2⟩ := info_parts infoAmt
          have hTl := Lib.hid (msT_len hO)
          clear h10 h20 hK
          go_enter Try.func10, Try.ntmps10
          go_wp2_with (go_at_call 18; refine (in_impl _ _ _ _).mono ?_; rintro e w9 ⟨rfl, rfl⟩; rw [hn])
          refine (HT1.out _ (by (repeat (first | with_reducible exact Below.refl _ _ | with_reducible assumption | with_reducible refine balloc ?_ _ | with_reducible refine bdrew ?_ | with_reducible refine below_drewN ?_ _ | with_reducible refine bset ?_ ?_ _ | with_reducible exact Nat.le_refl _ | with_reducible refine bsize ?_ | (dsimp only; refine Nat.le_trans ?_ (Nat.le_add_right _ _)) | with_reducible refine Nat.le_trans ?_ (Nat.le_add_right _ _) | (with_reducible refine bstep ?_ (by assumption)))))).mono ?_
          rintro e w1 ⟨rfl, hb1⟩
          rw [t1]
          (have ha1 : Below w.heap.size w w1 := by (repeat (first | with_reducible exact Below.refl _ _ | with_reducible assumption | with_reducible refine balloc ?_ _ | with_reducible refine bdrew ?_ | with_reducible refine below_drewN ?_ _ | with_reducible refine bset ?_ ?_ _ | with_reducible exact Nat.le_refl _ | with_reducible refine bsize ?_ | (dsimp only; refine Nat.le_trans ?_ (Nat.le_add_right _ _)) | with_reducible refine Nat.le_trans ?_ (Nat.le_add_right _ _) | (with_reducible refine bstep ?_ (by assumption)))))
          obtain ⟨kc1, kf1, kz1, ky1, kx1, kv1, ku1⟩ := bcell hb1
          have r1 : w1.cell? ⟨w.heap.size, 0, none⟩ = some (.int .i64 0) := (by rw [kc1 (w.heap.size) _ (by first | (simp; done) | (simp; omega))]; first | (simp; done) | (simp [go_sem]; done)); have r2 : w1.cell? ⟨w.heap.size, 1, none⟩ = some (.int .i64 0) := (by rw [kc1 (w.heap.size) _ (by first | (simp; done) | (simp; omega))]; first | (simp; done) | (simp [go_sem]; done)); have r3 : w1.frozen? ⟨w.heap.size, 0, none⟩ = false := (by rw [kf1 (w.heap.size) _ (by first | (simp; done) | (simp; omega))]; first | (simp; done) | (simp [go_sem]; done)); have r4 : w1.frozen? ⟨w.heap.size, 1, none⟩ = false := (by rw [kf1 (w.heap.size) _ (by first | (simp; done) | (simp; omega))]; first | (simp; done) | (simp [go_sem]; done)); have rz : w.heap.size < w1.heap.size := kz1 (w.heap.size) (by first | (simp; done) | (simp; omega))
          clear kc1 kf1 kz1 ky1 kx1 kv1 ku1 hb1
          go_wp2_with fail
          refine (HT2.out _ (by (repeat (first | with_reducible exact Below.refl _ _ | with_reducible assumption | with_reducible refine balloc ?_ _ | with_reducible refine bdrew ?_ | with_reducible refine below_drewN ?_ _ | with_reducible refine bset ?_ ?_ _ | with_reducible exact Nat.le_refl _ | with_reducible refine bsize ?_ | (dsimp only; refine Nat.le_trans ?_ (Nat.le_add_right _ _)) | with_reducible refine Nat.le_trans ?_ (Nat.le_add_right _ _) | (with_reducible refine bstep ?_ (by assumption)))))).mono ?_
          rintro e w2 ⟨rfl, hb2⟩
          rw [t2]
          (have rb : Below w1.heap.size w1 w2 := bstep (by (repeat (first | with_reducible exact Below.refl _ _ | with_reducible assumption | with_reducible refine balloc ?_ _ | with_reducible refine bdrew ?_ | with_reducible refine below_drewN ?_ _ | with_reducible refine bset ?_ ?_ _ | with_reducible exact Nat.le_refl _ | with_reducible refine bsize ?_ | (dsimp only; refine Nat.le_trans ?_ (Nat.le_add_right _ _)) | with_reducible refine Nat.le_trans ?_ (Nat.le_add_right _ _) | (with_reducible refine bstep ?_ (by assumption))))) hb2); replace r1 := keepa rb rz r1; replace r2 := keepa rb rz r2; replace r3 := keepz rb rz r3; replace r4 := keepz rb rz r4; replace rz := Nat.lt_of_lt_of_le rz rb.size; clear rb
          (have ha2 : Below w.heap.size w w2 := by (repeat (first | with_reducible exact Below.refl _ _ | with_reducible assumption | with_reducible refine balloc ?_ _ | with_reducible refine bdrew ?_ | with_reducible refine below_drewN ?_ _ | with_reducible refine bset ?_ ?_ _ | with_reducible exact Nat.le_refl _ | with_reducible refine bsize ?_ | (dsimp only; refine Nat.le_trans ?_ (Nat.le_add_right _ _)) | with_reducible refine Nat.le_trans ?_ (Nat.le_add_right _ _) | (with_reducible refine bstep ?_ (by assumption)))))
          clear hb2
          go_wp2
          go_loopw [6, 37] (fun u i wr => ∃ (k : Nat) (v : Value), v = u ∧ k ≤ ws.length ∧ i = .int .i64 k ∧ wr.ownsRow w2.heap.size 23 2 v k (cellsG fAmt ((msT ws ss).take k)) ∧ Below w2.heap.size w2 wr) (fun _ i _ => ws.length - (intOf i).toNat)
          case atStart => exact ⟨0, _, rfl, Nat.zero_le _, rfl, ⟨rfl, Or.inl ⟨rfl, rfl⟩⟩, by (repeat (first | with_reducible exact Below.refl _ _ | with_reducible assumption | with_reducible refine balloc ?_ _ | with_reducible refine bdrew ?_ | with_reducible refine below_drewN ?_ _ | with_reducible refine bset ?_ ?_ _ | with_reducible exact Nat.le_refl _ | with_reducible refine bsize ?_ | (dsimp only; refine Nat.le_trans ?_ (Nat.le_add_right _ _)) | with_reducible refine Nat.le_trans ?_ (Nat.le_add_right _ _) | (with_reducible refine bstep ?_ (by assumption))))⟩
          case round =>
            obtain ⟨k, v, rfl, hk, rfl, hown, hbel⟩ := hrel
            by_cases hlt : k < ws.length
            · obtain ⟨x, hx⟩ : ∃ x, ws[k]? = some x := ⟨_, List.getElem?_eq_getElem hlt⟩
              obtain ⟨s, hs⟩ : ∃ s, ss[k]? = some s := ⟨_, List.getElem?_eq_getElem (by have := hlh.out; omega)⟩
              have e0 := cellI (liesG_below hL1 (bstep ha2 hbel)) hx
              have e1 := cellI (liesG_below hL2 (bstep ha2 hbel)) hs
              have bx := hO.w x (List.mem_of_getElem? hx)
              have bs := hO.s s (List.mem_of_getElem? hs)
              have HSU := Lib.hid (msT_take hx hs)
              have hlb := (ms_part bx bs).1
              have HF := Lib.hid (fun W g h1 => tf1 s x (by omega) (by omega) g W h1)
              rw [hlb] at HF
              clear hlb hx hs
              generalize lowN x s = N at *
              generalize lowD x s = V at *
              have i1 : (0 : Int) ≤ (k : Int) := by omega
              have i2 : (k : Int) < (ws.length : Int) := by omega
              go_wp2_with fail
              refine (HF.out _ _ (by simp [go_sem])).mono ?_
              rintro e w5 ⟨rfl, hb5⟩
              have f5 : Below wr.heap.size wr w5 := bstep (by (repeat (first | with_reducible exact Below.refl _ _ | with_reducible assumption | with_reducible refine balloc ?_ _ | with_reducible refine bdrew ?_ | with_reducible refine below_drewN ?_ _ | with_reducible refine bset ?_ ?_ _ | with_reducible exact Nat.le_refl _ | with_reducible refine bsize ?_ | (dsimp only; refine Nat.le_trans ?_ (Nat.le_add_right _ _)) | with_reducible refine Nat.le_trans ?_ (Nat.le_add_right _ _) | (with_reducible refine bstep ?_ (by assumption))))) hb5
              have own3 := ownsRow_below hown f5
              have hb2' : Below w2.heap.size w2 w5 := bstep hbel f5
              have hsz3 := hb2'.size
              clear hown hbel f5 hb5 e0 e1
              go_wp2_with (at_builtin; refine wpList_append_own _ rfl _ _ 43 rfl w2.heap.size 23 i0 (.agg #[.int .i64 0, .int .i64 0]) 2 16 Try.underlying43 hi hz0 hz1 hz2 rfl (by decide) v k (cellsG fAmt ((msT ws ss).take k)) rfl ?own ⟨_, 0, none⟩ 1 1 [.int .i64 N, .int .i64 V] rfl rfl ?s1 ?s2 ?s3 ?s4 ?s5 ?_)
              case own => (repeat (first | with_reducible assumption | with_reducible refine own_alloc ?_ _ | with_reducible refine own_drew ?_ | with_reducible refine own_set ?_ ?_ _))
              case s1 => first | exact cell_two_new _ _ _ _ | simp [go_sem]
              case s2 => simp [Value.oneCell']
              case s3 => unfold maxLen; omega
              case s4 => omega
              case s5 => first | (simp; done) | (simp; omega)
              intro v' w4 hown' hgrow hnn2
              have hown2 : w4.ownsRow w2.heap.size 23 2 v' (k + 1) (cellsG fAmt ((msT ws ss).take (k + 1))) := by
                rw [HSU.out, cellsG_snoc]; simpa [fAmt] using hown'
              have bel4 : Below w2.heap.size w2 w4 := by
                refine grown_bel (base := w2.heap.size) (e := 23) (size := 2) (n := k) (xs := cellsG fAmt ((msT ws ss).take k)) ?_ hgrow (by (repeat (first | with_reducible assumption | with_reducible refine own_alloc ?_ _ | with_reducible refine own_drew ?_ | with_reducible refine own_set ?_ ?_ _))) (Nat.le_refl _)
                (repeat (first | with_reducible exact Below.refl _ _ | with_reducible assumption | with_reducible refine balloc ?_ _ | with_reducible refine bdrew ?_ | with_reducible refine below_drewN ?_ _ | with_reducible refine bset ?_ ?_ _ | with_reducible exact Nat.le_refl _ | with_reducible refine bsize ?_ | (dsimp only; refine Nat.le_trans ?_ (Nat.le_add_right _ _)) | with_reducible refine Nat.le_trans ?_ (Nat.le_add_right _ _) | (with_reducible refine bstep ?_ (by assumption))))
              clear hown' hgrow own3 hb2'
              go_wp2
              go_roundw
              case rel => exact ⟨k + 1, _, rfl, by omega, by go_num, hown2, bel4⟩
              case measure => simp [intOf]; omega
            · have hk' : k = ws.length := by omega
              subst hk'
              have htk : (msT ws ss).take ws.length = msT ws ss := by rw [← hTl.out, List.take_length]
              rw [htk] at hown
              have hbdT : ∀ p ∈ msT ws ss, ∀ y ∈ fAmt p, -9223372036854775808 ≤ y ∧ y ≤ 9223372036854775807 := by
                intro p hp y hy
                obtain ⟨j, hj, rfl⟩ := List.mem_iff_getElem.1 hp
                have hj2 : j < ws.length := by rw [hTl.out] at hj; exact hj
                have hj3 : j < ss.length := by rw [← hlh.out]; exact hj2
                have hg := msT_get (List.getElem?_eq_getElem hj2) (List.getElem?_eq_getElem hj3)
                rw [List.getElem?_eq_getElem hj] at hg
                injection hg with hg
                rw [hg] at hy
                have bb := (ms_part (hO.w _ (List.getElem_mem hj2)) (hO.s _ (List.getElem_mem hj3))).1
                have e := low_eq _ _ bb
                simp [fAmt] at hy
                rcases hy with rfl | rfl <;> omega
              have hrow : RowG 2 fAmt wr v (msT ws ss) := by
                rw [← hTl.out] at hown
                exact rowG_own fAmt_len hown hbdT
              have HS := Lib.hid (fun W (hb : Below wr.heap.size wr W) => sum_row v (msT ws ss) W (rowG_at hrow hb) (by have := hTl.out; omega))
              have hSe : sumL (msT ws ss) 0 1 = msS ws ss := rfl
              rw [hSe] at HS
              obtain ⟨va, vk, rfl, _, _⟩ := row_shape hrow
              have hbw := bstep ha2 hbel
              replace r1 := keepa hbel rz r1
              replace r2 := keepa hbel rz r2
              replace r3 := keepz hbel rz r3
              replace r4 := keepz hbel rz r4
              replace rz := Nat.lt_of_lt_of_le rz hbel.size
              clear htk hbdT hrow hSe hown hbel hO hL1 hL2
              cases hS : msS ws ss with
              | none =>
                have ee := Lib.hid (hnn.out (by rw [hBe, hS]; rfl))
                rw [hS] at HS
                clear hnn hyy hBe hSo hS
                go_wp2_with fail
                refine (HS.out _ (by (repeat (first | with_reducible exact Below.refl _ _ | with_reducible assumption | with_reducible refine balloc ?_ _ | with_reducible refine bdrew ?_ | with_reducible refine below_drewN ?_ _ | with_reducible refine bset ?_ ?_ _ | with_reducible exact Nat.le_refl _ | with_reducible refine bsize ?_ | (dsimp only; refine Nat.le_trans ?_ (Nat.le_add_right _ _)) | with_reducible refine Nat.le_trans ?_ (Nat.le_add_right _ _) | (with_reducible refine bstep ?_ (by assumption)))))).mono ?_
                rintro e w6 ⟨rfl, hb6⟩
                (have rb : Below wr.heap.size wr w6 := bstep (by (repeat (first | with_reducible exact Below.refl _ _ | with_reducible assumption | with_reducible refine balloc ?_ _ | with_reducible refine bdrew ?_ | with_reducible refine below_drewN ?_ _ | with_reducible refine bset ?_ ?_ _ | with_reducible exact Nat.le_refl _ | with_reducible refine bsize ?_ | (dsimp only; refine Nat.le_trans ?_ (Nat.le_add_right _ _)) | with_reducible refine Nat.le_trans ?_ (Nat.le_add_right _ _) | (with_reducible refine bstep ?_ (by assumption))))) hb6); replace r1 := keepa rb rz r1; replace r2 := keepa rb rz r2; replace r3 := keepz rb rz r3; replace r4 := keepz rb rz r4; replace rz := Nat.lt_of_lt_of_le rz rb.size; clear rb
                go_wp2
                refine bodyPost_ret (v := .tuple #[.agg #[.int .i64 0, .int .i64 0], .bool false]) (by simp only [results, Try.results10]; go_simp) rfl ?_
                refine ⟨by rw [ee.out.1, ee.out.2.1, ee.out.2.2], ?_⟩
                (repeat (first | with_reducible exact Below.refl _ _ | with_reducible assumption | with_reducible refine balloc ?_ _ | with_reducible refine bdrew ?_ | with_reducible refine below_drewN ?_ _ | with_reducible refine bset ?_ ?_ _ | with_reducible exact Nat.le_refl _ | with_reducible refine bsize ?_ | (dsimp only; refine Nat.le_trans ?_ (Nat.le_add_right _ _)) | with_reducible refine Nat.le_trans ?_ (Nat.le_add_right _ _) | (with_reducible refine bstep ?_ (by assumption))))
              | some p =>
                have hB : msB ws ss = true := by rw [hBe, hS]; rfl
                have hy := hyy.out hB
                have hp := hSo.out p hS
                have hoN : oN (msS ws ss) = p.1 := by rw [hS]; rfl
                have hoD : oD (msS ws ss) = p.2 := by rw [hS]; rfl
                rw [hoN, hoD] at hy
                have ee := Lib.hid hy
                have hoB : oB (msS ws ss) = true := by rw [hS]; rfl
                rw [hoN, hoD, hoB] at HS
                obtain ⟨hpa, hpp⟩ := hp
                have hpA := am_of _ _ hpa
                have HD := Lib.hid (fun W => dividedBy_pub_impl U 1 p.1 p.2 (by omega) (by omega) (by have := hpA.a; have := hpA.b; omega) (by have := hpA.c; have := hpA.d; omega) W)
                have hkk : okk U 1 p.1 p.2 = true := by simp [okk, hpa, am_whole U (by omega) (by omega)]
                have hD0 := HD.out
                rw [hkk, (two_yes _ _).1, (two_yes _ _).2.1, (two_yes _ _).2.2, Int.one_mul] at hD0
                have HD := Lib.hid hD0
                clear hD0 hkk hnn hyy hBe hSo hS hB hy hoN hoD hoB hpA hpa hpp
                generalize p.1 = x at *
                generalize p.2 = y at *
                obtain ⟨R1, hR1⟩ : ∃ R, lowN (U * y) x = R := ⟨_, rfl⟩
                obtain ⟨R2, hR2⟩ : ∃ R, lowD (U * y) x = R := ⟨_, rfl⟩
                obtain ⟨R3, hR3⟩ : ∃ R, lowB (U * y) x = R := ⟨_, rfl⟩
                rw [hR1, hR2, hR3] at HD ee
                clear hR1 hR2 hR3
                go_wp2_with fail
                refine (HS.out _ (by (repeat (first | with_reducible exact Below.refl _ _ | with_reducible assumption | with_reducible refine balloc ?_ _ | with_reducible refine bdrew ?_ | with_reducible refine below_drewN ?_ _ | with_reducible refine bset ?_ ?_ _ | with_reducible exact Nat.le_refl _ | with_reducible refine bsize ?_ | (dsimp only; refine Nat.le_trans ?_ (Nat.le_add_right _ _)) | with_reducible refine Nat.le_trans ?_ (Nat.le_add_right _ _) | (with_reducible refine bstep ?_ (by assumption)))))).mono ?_
                rintro e w6 ⟨rfl, hb6⟩
                (have rb : Below wr.heap.size wr w6 := bstep (by (repeat (first | with_reducible exact Below.refl _ _ | with_reducible assumption | with_reducible refine balloc ?_ _ | with_reducible refine bdrew ?_ | with_reducible refine below_drewN ?_ _ | with_reducible refine bset ?_ ?_ _ | with_reducible exact Nat.le_refl _ | with_reducible refine bsize ?_ | (dsimp only; refine Nat.le_trans ?_ (Nat.le_add_right _ _)) | with_reducible refine Nat.le_trans ?_ (Nat.le_add_right _ _) | (with_reducible refine bstep ?_ (by assumption))))) hb6); replace r1 := keepa rb rz r1; replace r2 := keepa rb rz r2; replace r3 := keepz rb rz r3; replace r4 := keepz rb rz r4; replace rz := Nat.lt_of_lt_of_le rz rb.size; clear rb
                (have ha6 : Below w.heap.size w w6 := by (repeat (first | with_reducible exact Below.refl _ _ | with_reducible assumption | with_reducible refine balloc ?_ _ | with_reducible refine bdrew ?_ | with_reducible refine below_drewN ?_ _ | with_reducible refine bset ?_ ?_ _ | with_reducible exact Nat.le_refl _ | with_reducible refine bsize ?_ | (dsimp only; refine Nat.le_trans ?_ (Nat.le_add_right _ _)) | with_reducible refine Nat.le_trans ?_ (Nat.le_add_right _ _) | (with_reducible refine bstep ?_ (by assumption)))))
                go_wp2_with fail
                have hR : Res8 w.heap.size w6 := ⟨_, _, r1, r2, r3, r4, rz⟩
                clear hb6 r1 r2 r3 r4
                have hgn : ¬ (w.heap.size = w6.heap.size) := by omega
                have hgn2 : ¬ (w6.heap.size = w.heap.size) := by omega
                go_region_held3 (fun W => Below w.heap.size w W ∧ Res8 w.heap.size W ∧ w.heap.size < W.heap.size ∧ w6.heap.size < W.heap.size ∧ W.cell? ⟨w6.heap.size, 0, none⟩ = some (.int .i64 x) ∧ W.cell? ⟨w6.heap.size, 1, none⟩ = some (.int .i64 y)) (((go_split_ands; (repeat' with_reducible apply And.intro) <;> first | with_reducible assumption | with_reducible exact Below.refl _ _ | with_reducible exact Res8.drew (by with_reducible assumption) | with_reducible exact Res8.drew (Res8.alloc (by with_reducible assumption) _) | with_reducible exact Res8.alloc (by with_reducible assumption) _ | with_reducible exact (Res8.set (Res8.set (by with_reducible assumption) 0 _ (by omega)) 1 _ (by omega)) | with_reducible exact Res8.drew (Res8.set (Res8.set (by with_reducible assumption) 0 _ (by omega)) 1 _ (by omega)) | ((repeat (first | with_reducible exact Below.refl _ _ | with_reducible assumption | with_reducible refine balloc ?_ _ | with_reducible refine bdrew ?_ | with_reducible refine below_drewN ?_ _ | with_reducible refine bset ?_ ?_ _ | with_reducible exact Nat.le_refl _ | with_reducible refine bsize ?_ | (dsimp only; refine Nat.le_trans ?_ (Nat.le_add_right _ _)) | with_reducible refine Nat.le_trans ?_ (Nat.le_add_right _ _) | (with_reducible refine bstep ?_ (by assumption)))); done) | (simp [go_sem]; done) | (simp; omega) | (simp [go_sem, *]; done) | go_keep))) (first | (go_at_call 26; refine (HAW.out _ (by first | with_reducible assumption | ((repeat (first | with_reducible exact Below.refl _ _ | with_reducible assumption | with_reducible refine balloc ?_ _ | with_reducible refine bdrew ?_ | with_reducible refine below_drewN ?_ _ | with_reducible refine bset ?_ ?_ _ | with_reducible exact Nat.le_refl _ | with_reducible refine bsize ?_ | (dsimp only; refine Nat.le_trans ?_ (Nat.le_add_right _ _)) | with_reducible refine Nat.le_trans ?_ (Nat.le_add_right _ _) | (with_reducible refine bstep ?_ (by assumption)))); done))).mono ?_; rintro e w3 ⟨rfl, rfl⟩) | (go_at_call 19; refine (HW.out _).mono ?_; rintro e w3 ⟨rfl, hb3⟩; (try have fr := Res8.later (by first | with_reducible assumption | with_reducible exact Res8.drew (by with_reducible assumption) | with_reducible exact Res8.drew (Res8.alloc (by with_reducible assumption) _) | with_reducible exact Res8.alloc (by with_reducible assumption) _) hb3); (try (have fr2 := fr; obtain ⟨rx, ry, r1, r2, r3, r4, rz⟩ := fr2)); go_split_ands; (have f0 : Below w.heap.size w w3 := bstep (by first | with_reducible assumption | ((repeat (first | with_reducible exact Below.refl _ _ | with_reducible assumption | with_reducible refine balloc ?_ _ | with_reducible refine bdrew ?_ | with_reducible refine below_drewN ?_ _ | with_reducible refine bset ?_ ?_ _ | with_reducible exact Nat.le_refl _ | with_reducible refine bsize ?_ | (dsimp only; refine Nat.le_trans ?_ (Nat.le_add_right _ _)) | with_reducible refine Nat.le_trans ?_ (Nat.le_add_right _ _) | (with_reducible refine bstep ?_ (by assumption)))); done)) hb3); (have sz := hb3.size); (try simp only [go_sem] at sz); (have f1 : w3.cell? ⟨w6.heap.size, 0, none⟩ = some (.int .i64 x) := keepa hb3 (by first | with_reducible assumption | omega | (simp; omega)) (by first | with_reducible assumption | (simp [go_sem]; done) | (simp [go_sem, *]; done))); (have f2 : w3.cell? ⟨w6.heap.size, 1, none⟩ = some (.int .i64 y) := keepa hb3 (by first | with_reducible assumption | omega | (simp; omega)) (by first | with_reducible assumption | (simp [go_sem]; done) | (simp [go_sem, *]; done))); (have fz1 : w.heap.size < w3.heap.size := by omega); (have fz2 : w6.heap.size < w3.heap.size := by omega)) | (go_at_call 25; refine (HD.out _).mono ?_; rintro e w3 ⟨rfl, hb3⟩; (try have fr := Res8.later (by first | with_reducible assumption | with_reducible exact Res8.drew (by with_reducible assumption) | with_reducible exact Res8.drew (Res8.alloc (by with_reducible assumption) _) | with_reducible exact Res8.alloc (by with_reducible assumption) _) hb3); (try (have fr2 := fr; obtain ⟨rx, ry, r1, r2, r3, r4, rz⟩ := fr2)); go_split_ands; (have f0 : Below w.heap.size w w3 := bstep (by first | with_reducible assumption | ((repeat (first | with_reducible exact Below.refl _ _ | with_reducible assumption | with_reducible refine balloc ?_ _ | with_reducible refine bdrew ?_ | with_reducible refine below_drewN ?_ _ | with_reducible refine bset ?_ ?_ _ | with_reducible exact Nat.le_refl _ | with_reducible refine bsize ?_ | (dsimp only; refine Nat.le_trans ?_ (Nat.le_add_right _ _)) | with_reducible refine Nat.le_trans ?_ (Nat.le_add_right _ _) | (with_reducible refine bstep ?_ (by assumption)))); done)) hb3); (have sz := hb3.size); (try simp only [go_sem] at sz); (have f1 : w3.cell? ⟨w6.heap.size, 0, none⟩ = some (.int .i64 x) := keepa hb3 (by first | with_reducible assumption | omega | (simp; omega)) (by first | with_reducible assumption | (simp [go_sem]; done) | (simp [go_sem, *]; done))); (have f2 : w3.cell? ⟨w6.heap.size, 1, none⟩ = some (.int .i64 y) := keepa hb3 (by first | with_reducible assumption | omega | (simp; omega)) (by first | with_reducible assumption | (simp [go_sem]; done) | (simp [go_sem, *]; done))); (have fz1 : w.heap.size < w3.heap.size := by omega); (have fz2 : w6.heap.size < w3.heap.size := by omega)))
                all_goals go_wp2
                all_goals refine bodyPost_ret (v := .tuple #[.agg #[.int .i64 R1, .int .i64 R2], .bool R3]) (by simp only [results, Try.results10]; go_simp) rfl ?_
                all_goals refine ⟨by rw [ee.out.1, ee.out.2.1, ee.out.2.2], ?_⟩
                all_goals (repeat (first | with_reducible exact Below.refl _ _ | with_reducible assumption | with_reducible refine balloc ?_ _ | with_reducible refine bdrew ?_ | with_reducible refine below_drewN ?_ _ | with_reducible refine bset ?_ ?_ _ | with_reducible exact Nat.le_refl _ | with_reducible refine bsize ?_ | (dsimp only; refine Nat.le_trans ?_ (Nat.le_add_right _ _)) | with_reducible refine Nat.le_trans ?_ (Nat.le_add_right _ _) | (with_reducible refine bstep ?_ (by assumption))))
    · have hz : msB ws ss = false := by simp [msB, msK, hl]
      have hli : ¬ (ws.length : Int) = (ss.length : Int) := by omega
      obtain ⟨e1, e2, e3⟩ := ms_no hz
      rw [e1, e2, e3]; clear e1 e2 e3 hz
      go_enter Try.func10, Try.ntmps10
      go_wp2_with (go_at_call 18; refine (in_impl _ _ _ _).mono ?_; rintro e w9 ⟨rfl, rfl⟩; rw [hn])
      refine bodyPost_ret (v := .tuple #[.agg #[.int .i64 0, .int .i64 0], .bool false]) (by simp only [results, Try.results10]; go_simp) rfl ⟨rfl, ?_⟩
      (repeat (first | with_reducible exact Below.refl _ _ | with_reducible assumption | with_reducible refine balloc ?_ _ | with_reducible refine bdrew ?_ | with_reducible refine below_drewN ?_ _ | with_reducible refine bset ?_ ?_ _ | with_reducible exact Nat.le_refl _ | with_reducible refine bsize ?_ | (dsimp only; refine Nat.le_trans ?_ (Nat.le_add_right _ _)) | with_reducible refine Nat.le_trans ?_ (Nat.le_add_right _ _) | (with_reducible refine bstep ?_ (by assumption))))
end Go.Proofs.Ytbaaaaceejgofaa
