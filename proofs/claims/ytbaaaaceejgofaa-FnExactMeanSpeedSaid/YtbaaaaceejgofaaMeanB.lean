/- Mean speeds, of the model. -/
import Derived.Test.YtbaaaaceejgofaaMeanA
import Derived.Test.YtbaaaaceejgofaaPubS1
import Derived.Test.YtbaaaaceejgofaaPubS4
namespace Go.Proofs.Ytbaaaaceejgofaa
open Go.ChangeShapes Go.WideShapes Go.ChangeAt Go.RowKit Go.Joins
set_option maxRecDepth 100000
set_option linter.unusedVariables false
set_option linter.unusedSimpArgs false

theorem all_some (lo hi : Int) (a : Addr) (cap : Nat) (l : List Int) (w : World) (hL : LiesG 1 fInt w a cap l) :
    Calls Try.prog 21 #[.slice (some a) l.length cap, .int .i64 lo, .int .i64 hi] w fun e w' => e = .returned (.bool (l.all (fun x => inB x lo hi))) ∧ w = w' := by
  have hlc := hL.hlc
  have hcap := hL.hcap
  obtain ⟨A, hA⟩ : ∃ A, A = l.all (fun x => inB x lo hi) := ⟨_, rfl⟩
  rw [← hA]
  have hA := Lib.hid hA
  go_enter Try.func21, Try.ntmps21
  go_wp2
  go_loopw [11] (fun i wr => ∃ k : Nat, k ≤ l.length ∧ i = .int .i64 k ∧ Hid (∀ j p, j < k → l[j]? = some p → inB p lo hi = true) ∧ w = wr) (fun i _ => l.length - (intOf i).toNat)
  case atStart => exact ⟨0, Nat.zero_le _, rfl, Lib.hid (fun j p h _ => absurd h (by omega)), rfl⟩
  case round =>
    obtain ⟨k, hk, rfl, hall, rfl⟩ := hrel
    by_cases hlt : k < l.length
    · obtain ⟨p, hp⟩ : ∃ p, l[k]? = some p := ⟨_, List.getElem?_eq_getElem hlt⟩
      have e0 := cellI hL hp
      cases hP : inB p lo hi
      · have hno : Hid (A = false) := by
          rw [hA.out]
          refine Lib.hid ?_
          rw [Bool.eq_false_iff]
          intro h
          have := (List.all_eq_true.1 h) p (List.mem_of_getElem? hp)
          rw [hP] at this
          cases this
        clear hp hall
        go_wp2_with (go_at_call 13; refine (in_spec _ _ _ _).mono ?_; rintro e w2 ⟨rfl, rfl⟩; rw [hP])
        refine bodyPost_ret (v := .bool false) (by simp only [results, Try.results21]; go_simp) rfl ?_
        exact ⟨by rw [hno.out], rfl⟩
      · have hnext : Hid (∀ j p, j < k + 1 → l[j]? = some p → inB p lo hi = true) := by
          have h := hall.out
          refine Lib.hid (fun j q hj hq => ?_)
          by_cases e : j = k
          · subst e
            rw [hp] at hq
            injection hq with hq
            subst hq
            exact hP
          · exact h j q (by omega) hq
        clear hp hall
        go_wp2_with (go_at_call 13; refine (in_spec _ _ _ _).mono ?_; rintro e w2 ⟨rfl, rfl⟩; rw [hP])
        go_roundw
        case rel => exact ⟨k + 1, by omega, by go_num, hnext, trivial⟩
        case measure => simp [intOf]; omega
    · have hkl : k = l.length := by omega
      have hyes : Hid (A = true) := by
        rw [hA.out]
        have h := hall.out
        refine Lib.hid (List.all_eq_true.2 fun p hp => ?_)
        obtain ⟨j, hj, hjp⟩ := List.mem_iff_getElem.1 hp
        exact h j p (by omega) (by rw [List.getElem?_eq_getElem hj, hjp])
      clear hall
      go_wp2
      refine bodyPost_ret (v := .bool true) (by simp only [results, Try.results21]; go_simp) rfl ?_
      exact ⟨by rw [hyes.out], rfl⟩
theorem all_nil (lo hi : Int) (w : World) :
    Calls Try.prog 21 #[.slice none 0 0, .int .i64 lo, .int .i64 hi] w fun e w' => e = .returned (.bool true) ∧ w = w' := by
  go_enter Try.func21, Try.ntmps21
  go_wp2
  go_loopw [11] (fun i wr => i = .int .i64 0 ∧ w = wr) (fun _ _ => 0)
  case atStart => exact ⟨rfl, rfl⟩
  case round =>
    obtain ⟨rfl, rfl⟩ := hrel
    go_wp2
    go_ret
    exact ⟨rfl, rfl⟩
theorem all_is (lo hi : Int) (v : Value) (l : List Int) (w : World) (h : RowG 1 fInt w v l) :
    Calls Try.prog 21 #[v, .int .i64 lo, .int .i64 hi] w fun e w' => e = .returned (.bool (l.all (fun x => inB x lo hi))) ∧ w = w' := by
  rcases h with ⟨rfl, rfl⟩ | ⟨a, cap, rfl, hL⟩
  · exact all_nil lo hi w
  · exact all_some lo hi a cap l w hL
theorem whole9m (k : Int) (w : World) :
    Calls Try.prog 14 #[.int .i64 k] w fun e w' => e = .returned (.agg #[.int .i64 k, .int .i64 1]) ∧ Below w.heap.size w w' := by
  go_enter Try.func14, Try.ntmps14
  go_wp2
  exact bodyPost_ret (v := .agg #[.int .i64 k, .int .i64 1]) (by simp [results, Try.results14, go_sem]) rfl ⟨rfl, by (repeat (first | with_reducible exact Below.refl _ _ | with_reducible assumption | with_reducible refine balloc ?_ _ | with_reducible refine bdrew ?_ | with_reducible refine below_drewN ?_ _ | with_reducible refine bset ?_ ?_ _ | with_reducible exact Nat.le_refl _ | with_reducible refine bsize ?_ | (dsimp only; refine Nat.le_trans ?_ (Nat.le_add_right _ _)) | with_reducible refine Nat.le_trans ?_ (Nat.le_add_right _ _) | (with_reducible refine bstep ?_ (by assumption))))⟩
theorem ms_step {ws ss : List Int} {k : Nat} {x s X Y : Int} (hO : MsOk ws ss) (hx : ws[k]? = some x) (hs : ss[k]? = some s) :
    (lowB (X * lowD x s + lowN x s * Y) (Y * lowD x s) = true → sumL ((msT ws ss).drop k) X Y = sumL ((msT ws ss).drop (k + 1)) (lowN (X * lowD x s + lowN x s * Y) (Y * lowD x s)) (lowD (X * lowD x s + lowN x s * Y) (Y * lowD x s))) ∧
    (lowB (X * lowD x s + lowN x s * Y) (Y * lowD x s) = false → sumL ((msT ws ss).drop k) X Y = none) := by
  have hp := (ms_part (hO.w x (List.mem_of_getElem? hx)) (hO.s s (List.mem_of_getElem? hs))).2
  rw [msT_drop hx hs]
  constructor
  · intro h; rw [sumL]; simp only [hp, h, Bool.and_self, if_true]
  · intro h; rw [sumL]; simp only [hp, h, Bool.and_false, Bool.false_eq_true, if_false]
set_option maxHeartbeats 25600000 in
theorem mean_spec (v1 v2 : Value) (ws ss : List Int) (w : World) (h1 : RowG 1 fInt w v1 ws) (h2 : RowG 1 fInt w v2 ss) :
    Calls Try.prog 8 #[v1, v2] w fun e w' => e = .returned (.tuple #[.agg #[.int .i64 (msAN ws ss), .int .i64 (msAD ws ss)], .bool (msAB ws ss)]) ∧ Below w.heap.size w w' := by
  have HT1 := Lib.hid (fun W (hb : Below w.heap.size w W) => all_is 1 1000 v1 ws W (rowG_at h1 hb))
  have HT2 := Lib.hid (fun W (hb : Below w.heap.size w W) => all_is 1 1000 v2 ss W (rowG_at h2 hb))
  have ef : (fun x : Int => inB x 1 1000) = trP := rfl
  rw [ef] at HT1 HT2
  clear ef
  have h10 := h1
  have h20 := h2
  obtain ⟨a1, k1, rfl, hc1, hk1⟩ := row_shape h1
  obtain ⟨a2, k2, rfl, hc2, hk2⟩ := row_shape h2
  cases hn : inB (ws.length : Int) 1 8
  · have hz : msB ws ss = false := by simp [msB, msK, hn]
    obtain ⟨e1, e2, e3⟩ := ms_no hz
    rw [e1, e2, e3]; clear e1 e2 e3 hz
    go_enter Try.func8, Try.ntmps8
    go_wp2_with (go_at_call 13; refine (in_spec _ _ _ _).mono ?_; rintro e w9 ⟨rfl, rfl⟩; rw [hn])
    refine bodyPost_ret (v := .tuple #[.agg #[.int .i64 0, .int .i64 0], .bool false]) (by simp only [results, Try.results8]; go_simp) rfl ⟨rfl, ?_⟩
    (repeat (first | with_reducible exact Below.refl _ _ | with_reducible assumption | with_reducible refine balloc ?_ _ | with_reducible refine bdrew ?_ | with_reducible refine below_drewN ?_ _ | with_reducible refine bset ?_ ?_ _ | with_reducible exact Nat.le_refl _ | with_reducible refine bsize ?_ | (dsimp only; refine Nat.le_trans ?_ (Nat.le_add_right _ _)) | with_reducible refine Nat.le_trans ?_ (Nat.le_add_right _ _) | (with_reducible refine bstep ?_ (by assumption))))
  · by_cases hl : ws.length = ss.length
    · have hlh := Lib.hid hl
      have hKe : msK ws ss = (ws.all trP && ss.all trP) := by unfold msK; rw [hn, decide_eq_true hl]; rfl
      rw [← hl] at HT2 hc2 h20 ⊢
      clear hl h1 h2
      cases t1 : ws.all trP
      · have hz : msB ws ss = false := by simp [msB, hKe, t1]
        obtain ⟨e1, e2, e3⟩ := ms_no hz
        rw [e1, e2, e3]; clear e1 e2 e3 hz
        go_enter Try.func8, Try.ntmps8
        go_wp2_with (first | (go_at_call 13; refine (in_spec _ _ _ _).mono ?_; rintro e w9 ⟨rfl, rfl⟩; rw [hn]) | (go_at_call 21; refine (HT1.out _ (by (repeat (first | with_reducible exact Below.refl _ _ | with_reducible assumption | with_reducible refine balloc ?_ _ | with_reducible refine bdrew ?_ | with_reducible refine below_drewN ?_ _ | with_reducible refine bset ?_ ?_ _ | with_reducible exact Nat.le_refl _ | with_reducible refine bsize ?_ | (dsimp only; refine Nat.le_trans ?_ (Nat.le_add_right _ _)) | with_reducible refine Nat.le_trans ?_ (Nat.le_add_right _ _) | (with_reducible refine bstep ?_ (by assumption)))))).mono ?_; rintro e w9 ⟨rfl, rfl⟩; rw [t1]))
        refine bodyPost_ret (v := .tuple #[.agg #[.int .i64 0, .int .i64 0], .bool false]) (by simp only [results, Try.results8]; go_simp) rfl ⟨rfl, ?_⟩
        (repeat (first | with_reducible exact Below.refl _ _ | with_reducible assumption | with_reducible refine balloc ?_ _ | with_reducible refine bdrew ?_ | with_reducible refine below_drewN ?_ _ | with_reducible refine bset ?_ ?_ _ | with_reducible exact Nat.le_refl _ | with_reducible refine bsize ?_ | (dsimp only; refine Nat.le_trans ?_ (Nat.le_add_right _ _)) | with_reducible refine Nat.le_trans ?_ (Nat.le_add_right _ _) | (with_reducible refine bstep ?_ (by assumption))))
      · cases t2 : ss.all trP
        · have hz : msB ws ss = false := by simp [msB, hKe, t2]
          obtain ⟨e1, e2, e3⟩ := ms_no hz
          rw [e1, e2, e3]; clear e1 e2 e3 hz
          go_enter Try.func8, Try.ntmps8
          go_wp2_with (go_at_call 13; refine (in_spec _ _ _ _).mono ?_; rintro e w9 ⟨rfl, rfl⟩; rw [hn])
          refine (HT1.out _ (by (repeat (first | with_reducible exact Below.refl _ _ | with_reducible assumption | with_reducible refine balloc ?_ _ | with_reducible refine bdrew ?_ | with_reducible refine below_drewN ?_ _ | with_reducible refine bset ?_ ?_ _ | with_reducible exact Nat.le_refl _ | with_reducible refine bsize ?_ | (dsimp only; refine Nat.le_trans ?_ (Nat.le_add_right _ _)) | with_reducible refine Nat.le_trans ?_ (Nat.le_add_right _ _) | (with_reducible refine bstep ?_ (by assumption)))))).mono ?_
          rintro e w1 ⟨rfl, rfl⟩
          rw [t1]
          go_wp2_with (go_at_call 21; refine (HT2.out _ (by (repeat (first | with_reducible exact Below.refl _ _ | with_reducible assumption | with_reducible refine balloc ?_ _ | with_reducible refine bdrew ?_ | with_reducible refine below_drewN ?_ _ | with_reducible refine bset ?_ ?_ _ | with_reducible exact Nat.le_refl _ | with_reducible refine bsize ?_ | (dsimp only; refine Nat.le_trans ?_ (Nat.le_add_right _ _)) | with_reducible refine Nat.le_trans ?_ (Nat.le_add_right _ _) | (with_reducible refine bstep ?_ (by assumption)))))).mono ?_; rintro e w9 ⟨rfl, rfl⟩; rw [t2])
          refine bodyPost_ret (v := .tuple #[.agg #[.int .i64 0, .int .i64 0], .bool false]) (by simp only [results, Try.results8]; go_simp) rfl ⟨rfl, ?_⟩
          (repeat (first | with_reducible exact Below.refl _ _ | with_reducible assumption | with_reducible refine balloc ?_ _ | with_reducible refine bdrew ?_ | with_reducible refine below_drewN ?_ _ | with_reducible refine bset ?_ ?_ _ | with_reducible exact Nat.le_refl _ | with_reducible refine bsize ?_ | (dsimp only; refine Nat.le_trans ?_ (Nat.le_add_right _ _)) | with_reducible refine Nat.le_trans ?_ (Nat.le_add_right _ _) | (with_reducible refine bstep ?_ (by assumption))))
        · have hK : msK ws ss = true := by rw [hKe, t1, t2]; rfl
          have hO := msK_yes hK
          have hBe : msB ws ss = oB (msS ws ss) := by unfold msB; rw [hK]; rfl
          have hSo := Lib.hid (fun p hp => @ms_sum ws ss hO p hp)
          have hUb := msU_bd hO
          have h8 := hO.l8
          have hl1 := hO.l1
          have hnn := Lib.hid (@ms_no ws ss)
          have hyy := Lib.hid (@ms_yes ws ss)
          generalize msAN ws ss = AN at *
          generalize msAD ws ss = AD at *
          generalize msAB ws ss = AB at *
          obtain ⟨A1, hA1, hL1⟩ : ∃ A, a1 = some A ∧ LiesG 1 fInt w A k1 ws := by
            rcases h10 with ⟨e1, e2⟩ | ⟨A, c, e, hL⟩
            · rw [e2] at hl1; simp at hl1
            · injection e with e1 e2 e3; subst e1 e3; exact ⟨A, rfl, hL⟩
          obtain ⟨A2, hA2, hL2⟩ : ∃ A, a2 = some A ∧ LiesG 1 fInt w A k2 ss := by
            rcases h20 with ⟨e1, e2⟩ | ⟨A, c, e, hL⟩
            · injection e1 with _ e3; omega
            · injection e with e1 e2 e3; subst e1 e3; exact ⟨A, rfl, hL⟩
          subst hA1 hA2
          have HW := Lib.hid (fun k W => whole9m k W)
          have hup := Lib.hid (fun k => upTo_bd ws 1000 (by omega) (fun x hx => by have := hO.w x hx; omega) k)
          have hus : Hid (∀ k, upTo ws (k + 1) = upTo ws k + (ws[k]?).getD 0) := Lib.hid (fun k => rfl)
          have hu0 : upTo ws 0 = 0 := rfl
          have hue : msU ws = upTo ws ws.length := rfl
          rw [hue] at hyy hUb
          obtain ⟨f, hf⟩ : ∃ f : Nat → Int, f = upTo ws := ⟨_, rfl⟩
          rw [← hf] at hup hus hu0 hyy hUb
          clear hf hue h10 h20 hK
          go_enter Try.func8, Try.ntmps8
          go_wp2_with (go_at_call 13; refine (in_spec _ _ _ _).mono ?_; rintro e w9 ⟨rfl, rfl⟩; rw [hn])
          refine (HT1.out _ (by (repeat (first | with_reducible exact Below.refl _ _ | with_reducible assumption | with_reducible refine balloc ?_ _ | with_reducible refine bdrew ?_ | with_reducible refine below_drewN ?_ _ | with_reducible refine bset ?_ ?_ _ | with_reducible exact Nat.le_refl _ | with_reducible refine bsize ?_ | (dsimp only; refine Nat.le_trans ?_ (Nat.le_add_right _ _)) | with_reducible refine Nat.le_trans ?_ (Nat.le_add_right _ _) | (with_reducible refine bstep ?_ (by assumption)))))).mono ?_
          rintro e w1 ⟨rfl, rfl⟩
          rw [t1]
          go_wp2_with (go_at_call 21; refine (HT2.out _ (by (repeat (first | with_reducible exact Below.refl _ _ | with_reducible assumption | with_reducible refine balloc ?_ _ | with_reducible refine bdrew ?_ | with_reducible refine below_drewN ?_ _ | with_reducible refine bset ?_ ?_ _ | with_reducible exact Nat.le_refl _ | with_reducible refine bsize ?_ | (dsimp only; refine Nat.le_trans ?_ (Nat.le_add_right _ _)) | with_reducible refine Nat.le_trans ?_ (Nat.le_add_right _ _) | (with_reducible refine bstep ?_ (by assumption)))))).mono ?_; rintro e w9 ⟨rfl, rfl⟩; rw [t2])
          refine (HW.out 0 _).mono ?_
          rintro e w2 ⟨rfl, hb2⟩
          have hR : Res8 w.heap.size w2 := Res8.later (Res8.new _ _ _ _) hb2
          have hbw : Below w.heap.size w w2 := bstep (by (repeat (first | with_reducible exact Below.refl _ _ | with_reducible assumption | with_reducible refine balloc ?_ _ | with_reducible refine bdrew ?_ | with_reducible refine below_drewN ?_ _ | with_reducible refine bset ?_ ?_ _ | with_reducible exact Nat.le_refl _ | with_reducible refine bsize ?_ | (dsimp only; refine Nat.le_trans ?_ (Nat.le_add_right _ _)) | with_reducible refine Nat.le_trans ?_ (Nat.le_add_right _ _) | (with_reducible refine bstep ?_ (by assumption))))) hb2
          clear hb2
          obtain ⟨zx, zy, z1, z2, z3, z4, zw⟩ := hR
          have hR : Res8 w.heap.size w2 := ⟨zx, zy, z1, z2, z3, z4, zw⟩
          clear z1 z2 z3 z4
          have e01 : ¬ (w.heap.size = w2.heap.size) := by omega
          have e10 : ¬ (w2.heap.size = w.heap.size) := by omega
          have g01 : w.heap.size ≤ w2.heap.size := by omega
          go_wp2
          go_loopw [6, 39] (fun u i wr => ∃ (k : Nat) (x y : Int), k ≤ ws.length ∧ u = .int .i64 (f k) ∧ i = .int .i64 k ∧ Hid (amB x y = true) ∧ Hid (sumL ((msT ws ss).drop k) x y = msS ws ss) ∧ wr.cell? ⟨w2.heap.size, 0, none⟩ = some (.int .i64 x) ∧ wr.cell? ⟨w2.heap.size, 1, none⟩ = some (.int .i64 y) ∧ Res8 w2.heap.size wr ∧ Res8 w.heap.size wr ∧ Below w.heap.size w wr) (fun _ i _ => ws.length - (intOf i).toNat)
          case atStart => exact ⟨0, 0, 1, Nat.zero_le _, by rw [hu0], rfl, Lib.hid (am_whole 0 (by omega) (by omega)), Lib.hid rfl, by simp [go_sem], by simp [go_sem], Res8.new _ _ _ _, hR.alloc _, by (repeat (first | with_reducible exact Below.refl _ _ | with_reducible assumption | with_reducible refine balloc ?_ _ | with_reducible refine bdrew ?_ | with_reducible refine below_drewN ?_ _ | with_reducible refine bset ?_ ?_ _ | with_reducible exact Nat.le_refl _ | with_reducible refine bsize ?_ | (dsimp only; refine Nat.le_trans ?_ (Nat.le_add_right _ _)) | with_reducible refine Nat.le_trans ?_ (Nat.le_add_right _ _) | (with_reducible refine bstep ?_ (by assumption))))⟩
          case round =>
            obtain ⟨k, X, Y, hk, rfl, rfl, hXY, hsum, cX, cY, hRt, hR, hbel⟩ := hrel
            by_cases hlt : k < ws.length
            · obtain ⟨x, hx⟩ : ∃ x, ws[k]? = some x := ⟨_, List.getElem?_eq_getElem hlt⟩
              obtain ⟨s, hs⟩ : ∃ s, ss[k]? = some s := ⟨_, List.getElem?_eq_getElem (by have := hlh.out; omega)⟩
              have e0 := cellI (liesG_below hL1 hbel) hx
              have e1 := cellI (liesG_below hL2 hbel) hs
              have bx := hO.w x (List.mem_of_getElem? hx)
              have bs := hO.s s (List.mem_of_getElem? hs)
              have hst := ms_step (X := X) (Y := Y) hO hx hs
              have hlb := ms_part bx bs
              have HM := Lib.hid (fun W => make_spec x s (by omega) (by omega) (by omega) (by omega) W)
              have HA := Lib.hid (fun W => amAdd_spec X Y (lowN x s) (lowD x s) (am_of _ _ hXY.out) (am_of _ _ hlb.2) W)
              rw [hlb.1] at HM
              have hfk := hup.out k
              have hfb : 0 ≤ f k ∧ f k ≤ 8000 := by
                have : (k : Int) * 1000 ≤ 8 * 1000 := Int.mul_le_mul_of_nonneg_right (by omega) (by omega)
                omega
              have hf1 := hus.out k
              rw [hx] at hf1
              replace hf1 : f (k + 1) = f k + x := hf1
              have hf2 := Lib.hid hf1
              rw [hsum.out] at hst
              have hst2 := Lib.hid hst
              clear hst hfk hf1 hlb hx hs hsum hu0
              generalize lowN x s = N at *
              generalize lowD x s = V at *
              generalize hPn : X * V + N * Y = P at *
              generalize hQn : Y * V = Q at *
              clear hPn hQn
              have i1 : (0 : Int) ≤ (k : Int) := by omega
              have i2 : (k : Int) < (ws.length : Int) := by omega
              have zT : w2.heap.size < wr.heap.size := by obtain ⟨_, _, _, _, _, _, q⟩ := hRt; exact q
              go_wp2_with fail
              refine (HM.out _).mono ?_
              rintro e w5 ⟨rfl, hb5⟩
              have f5 : Below wr.heap.size wr w5 := bstep (by (repeat (first | with_reducible exact Below.refl _ _ | with_reducible assumption | with_reducible refine balloc ?_ _ | with_reducible refine bdrew ?_ | with_reducible refine below_drewN ?_ _ | with_reducible refine bset ?_ ?_ _ | with_reducible exact Nat.le_refl _ | with_reducible refine bsize ?_ | (dsimp only; refine Nat.le_trans ?_ (Nat.le_add_right _ _)) | with_reducible refine Nat.le_trans ?_ (Nat.le_add_right _ _) | (with_reducible refine bstep ?_ (by assumption))))) hb5
              replace cX := keepa f5 zT cX
              replace cY := keepa f5 zT cY
              replace hRt := hRt.later f5
              replace hR := hR.later f5
              replace hbel := bstep hbel f5
              replace zT := Nat.lt_of_lt_of_le zT f5.size
              clear f5 hb5 e0 e1
              cases hB2 : lowB P Q
              · have hSn := hst2.out.2 hB2
                have ee := Lib.hid (hnn.out (by rw [hBe, hSn]; rfl))
                have HAa := HA.out
                rw [hB2] at HAa
                replace HAa := Lib.hid HAa
                clear hSn hnn hyy hBe hSo hst2 HA hB2
                go_wp2_with fail
                refine (HAa.out _).mono ?_
                rintro e w6 ⟨rfl, hb6⟩
                have f6 : Below w5.heap.size w5 w6 := bstep (by (repeat (first | with_reducible exact Below.refl _ _ | with_reducible assumption | with_reducible refine balloc ?_ _ | with_reducible refine bdrew ?_ | with_reducible refine below_drewN ?_ _ | with_reducible refine bset ?_ ?_ _ | with_reducible exact Nat.le_refl _ | with_reducible refine bsize ?_ | (dsimp only; refine Nat.le_trans ?_ (Nat.le_add_right _ _)) | with_reducible refine Nat.le_trans ?_ (Nat.le_add_right _ _) | (with_reducible refine bstep ?_ (by assumption))))) hb6
                replace hR := hR.later f6
                replace hbel := bstep hbel f6
                clear f6 hb6 cX cY hRt
                obtain ⟨rx, ry, r1, r2, r3, r4, rz⟩ := hR
                go_wp2
                refine bodyPost_ret (v := .tuple #[.agg #[.int .i64 0, .int .i64 0], .bool false]) (by simp only [results, Try.results8]; go_simp) rfl ?_
                refine ⟨by rw [ee.out.1, ee.out.2.1, ee.out.2.2], ?_⟩
                (repeat (first | with_reducible exact Below.refl _ _ | with_reducible assumption | with_reducible refine balloc ?_ _ | with_reducible refine bdrew ?_ | with_reducible refine below_drewN ?_ _ | with_reducible refine bset ?_ ?_ _ | with_reducible exact Nat.le_refl _ | with_reducible refine bsize ?_ | (dsimp only; refine Nat.le_trans ?_ (Nat.le_add_right _ _)) | with_reducible refine Nat.le_trans ?_ (Nat.le_add_right _ _) | (with_reducible refine bstep ?_ (by assumption))))
              · have hSn := Lib.hid (hst2.out.1 hB2)
                have hAm := Lib.hid (amB_low _ _ hB2)
                have HAa := HA.out
                rw [hB2] at HAa
                replace HAa := Lib.hid HAa
                clear hst2 HA hB2
                go_wp2_with fail
                refine (HAa.out _).mono ?_
                rintro e w6 ⟨rfl, hb6⟩
                have f6 : Below w5.heap.size w5 w6 := bstep (by (repeat (first | with_reducible exact Below.refl _ _ | with_reducible assumption | with_reducible refine balloc ?_ _ | with_reducible refine bdrew ?_ | with_reducible refine below_drewN ?_ _ | with_reducible refine bset ?_ ?_ _ | with_reducible exact Nat.le_refl _ | with_reducible refine bsize ?_ | (dsimp only; refine Nat.le_trans ?_ (Nat.le_add_right _ _)) | with_reducible refine Nat.le_trans ?_ (Nat.le_add_right _ _) | (with_reducible refine bstep ?_ (by assumption))))) hb6
                replace hRt := hRt.later f6
                replace hR := hR.later f6
                replace hbel := bstep hbel f6
                replace zT := Nat.lt_of_lt_of_le zT f6.size
                clear f6 hb6 cX cY
                obtain ⟨xt, yt, s1, s2, s3, s4, s5⟩ := hRt
                obtain ⟨rx, ry, r1, r2, r3, r4, rz⟩ := hR
                have n1 : ¬ (w2.heap.size = w6.heap.size) := by omega
                have n2 : ¬ (w6.heap.size = w2.heap.size) := by omega
                go_wp2
                go_roundw
                case rel =>
                  refine ⟨k + 1, lowN P Q, lowD P Q, by omega, by rw [hf2.out], by go_num, hAm, Lib.hid hSn.out.symm, ?_, ?_, ⟨.int .i64 (lowN P Q), .int .i64 (lowD P Q), ?_, ?_, ?_, ?_, ?_⟩, ⟨rx, ry, ?_, ?_, ?_, ?_, ?_⟩, ?_⟩
                  all_goals first | ((repeat (first | with_reducible exact Below.refl _ _ | with_reducible assumption | with_reducible refine balloc ?_ _ | with_reducible refine bdrew ?_ | with_reducible refine below_drewN ?_ _ | with_reducible refine bset ?_ ?_ _ | with_reducible exact Nat.le_refl _ | with_reducible refine bsize ?_ | (dsimp only; refine Nat.le_trans ?_ (Nat.le_add_right _ _)) | with_reducible refine Nat.le_trans ?_ (Nat.le_add_right _ _) | (with_reducible refine bstep ?_ (by assumption)))); done) | (simp [go_sem, *]; done) | (simp; omega)
                case measure => simp [intOf]; omega
            · have hk' : k = ws.length := by omega
              subst hk'
              have hlt2 : (msT ws ss).drop ws.length = [] := by rw [← msT_len hO]; exact List.drop_length ..
              have hS : msS ws ss = some (X, Y) := by rw [← hsum.out, hlt2]; rfl
              have hB : msB ws ss = true := by rw [hBe, hS]; rfl
              have hy := hyy.out hB
              have hp := hSo.out _ hS
              have hoN : oN (msS ws ss) = X := by rw [hS]; rfl
              have hoD : oD (msS ws ss) = Y := by rw [hS]; rfl
              rw [hoN, hoD] at hy
              have ee := Lib.hid hy
              have HD := Lib.hid (fun W => amPart_spec (f ws.length) 1 X Y (am_of _ _ (am_whole _ hUb.1 (by omega))) (am_of _ _ hp.1) hp.2 W)
              have hD0 := HD.out
              rw [Int.one_mul] at hD0
              have HD := Lib.hid hD0
              clear hD0 hnn hyy hBe hSo hS hB hy hoN hoD hp hlt2 hsum
              obtain ⟨R1, hR1⟩ : ∃ R, lowN (f ws.length * Y) X = R := ⟨_, rfl⟩
              obtain ⟨R2, hR2⟩ : ∃ R, lowD (f ws.length * Y) X = R := ⟨_, rfl⟩
              obtain ⟨R3, hR3⟩ : ∃ R, lowB (f ws.length * Y) X = R := ⟨_, rfl⟩
              rw [hR1, hR2, hR3] at HD ee
              clear hR1 hR2 hR3
              have zT : w2.heap.size < wr.heap.size := by obtain ⟨_, _, _, _, _, _, q⟩ := hRt; exact q
              have zR : w.heap.size < wr.heap.size := by omega
              clear hRt
              have HW2 := Lib.hid (HW.out (f ws.length))
              go_wp2_with fail
              go_region_held3 (fun W => Below w.heap.size w W ∧ Res8 w.heap.size W ∧ w.heap.size < W.heap.size ∧ w2.heap.size < W.heap.size ∧ W.cell? ⟨w2.heap.size, 0, none⟩ = some (.int .i64 X) ∧ W.cell? ⟨w2.heap.size, 1, none⟩ = some (.int .i64 Y)) (((go_split_ands; (repeat' with_reducible apply And.intro) <;> first | with_reducible assumption | with_reducible exact Below.refl _ _ | with_reducible exact Res8.drew (by with_reducible assumption) | with_reducible exact Res8.drew (Res8.alloc (by with_reducible assumption) _) | with_reducible exact Res8.alloc (by with_reducible assumption) _ | with_reducible exact (Res8.set (Res8.set (by with_reducible assumption) 0 _ (by omega)) 1 _ (by omega)) | with_reducible exact Res8.drew (Res8.set (Res8.set (by with_reducible assumption) 0 _ (by omega)) 1 _ (by omega)) | ((repeat (first | with_reducible exact Below.refl _ _ | with_reducible assumption | with_reducible refine balloc ?_ _ | with_reducible refine bdrew ?_ | with_reducible refine below_drewN ?_ _ | with_reducible refine bset ?_ ?_ _ | with_reducible exact Nat.le_refl _ | with_reducible refine bsize ?_ | (dsimp only; refine Nat.le_trans ?_ (Nat.le_add_right _ _)) | with_reducible refine Nat.le_trans ?_ (Nat.le_add_right _ _) | (with_reducible refine bstep ?_ (by assumption)))); done) | (simp [go_sem]; done) | (simp; omega) | (simp [go_sem, *]; done) | go_keep))) (first | (go_at_call 14; refine (HW2.out _).mono ?_; rintro e w3 ⟨rfl, hb3⟩; (try have fr := Res8.later (by first | with_reducible assumption | with_reducible exact Res8.drew (by with_reducible assumption) | with_reducible exact Res8.drew (Res8.alloc (by with_reducible assumption) _) | with_reducible exact Res8.alloc (by with_reducible assumption) _) hb3); (try (have fr2 := fr; obtain ⟨rx, ry, r1, r2, r3, r4, rz⟩ := fr2)); go_split_ands; (have f0 : Below w.heap.size w w3 := bstep (by first | with_reducible assumption | ((repeat (first | with_reducible exact Below.refl _ _ | with_reducible assumption | with_reducible refine balloc ?_ _ | with_reducible refine bdrew ?_ | with_reducible refine below_drewN ?_ _ | with_reducible refine bset ?_ ?_ _ | with_reducible exact Nat.le_refl _ | with_reducible refine bsize ?_ | (dsimp only; refine Nat.le_trans ?_ (Nat.le_add_right _ _)) | with_reducible refine Nat.le_trans ?_ (Nat.le_add_right _ _) | (with_reducible refine bstep ?_ (by assumption)))); done)) hb3); (have sz := hb3.size); (try simp only [go_sem] at sz); (have f1 : w3.cell? ⟨w2.heap.size, 0, none⟩ = some (.int .i64 X) := keepa hb3 (by first | with_reducible assumption | omega | (simp; omega)) (by first | with_reducible assumption | (simp [go_sem]; done) | (simp [go_sem, *]; done))); (have f2 : w3.cell? ⟨w2.heap.size, 1, none⟩ = some (.int .i64 Y) := keepa hb3 (by first | with_reducible assumption | omega | (simp; omega)) (by first | with_reducible assumption | (simp [go_sem]; done) | (simp [go_sem, *]; done))); (have fz1 : w.heap.size < w3.heap.size := by omega); (have fz2 : w2.heap.size < w3.heap.size := by omega)) | (go_at_call 22; refine (HD.out _).mono ?_; rintro e w3 ⟨rfl, hb3⟩; (try have fr := Res8.later (by first | with_reducible assumption | with_reducible exact Res8.drew (by with_reducible assumption) | with_reducible exact Res8.drew (Res8.alloc (by with_reducible assumption) _) | with_reducible exact Res8.alloc (by with_reducible assumption) _) hb3); (try (have fr2 := fr; obtain ⟨rx, ry, r1, r2, r3, r4, rz⟩ := fr2)); go_split_ands; (have f0 : Below w.heap.size w w3 := bstep (by first | with_reducible assumption | ((repeat (first | with_reducible exact Below.refl _ _ | with_reducible assumption | with_reducible refine balloc ?_ _ | with_reducible refine bdrew ?_ | with_reducible refine below_drewN ?_ _ | with_reducible refine bset ?_ ?_ _ | with_reducible exact Nat.le_refl _ | with_reducible refine bsize ?_ | (dsimp only; refine Nat.le_trans ?_ (Nat.le_add_right _ _)) | with_reducible refine Nat.le_trans ?_ (Nat.le_add_right _ _) | (with_reducible refine bstep ?_ (by assumption)))); done)) hb3); (have sz := hb3.size); (try simp only [go_sem] at sz); (have f1 : w3.cell? ⟨w2.heap.size, 0, none⟩ = some (.int .i64 X) := keepa hb3 (by first | with_reducible assumption | omega | (simp; omega)) (by first | with_reducible assumption | (simp [go_sem]; done) | (simp [go_sem, *]; done))); (have f2 : w3.cell? ⟨w2.heap.size, 1, none⟩ = some (.int .i64 Y) := keepa hb3 (by first | with_reducible assumption | omega | (simp; omega)) (by first | with_reducible assumption | (simp [go_sem]; done) | (simp [go_sem, *]; done))); (have fz1 : w.heap.size < w3.heap.size := by omega); (have fz2 : w2.heap.size < w3.heap.size := by omega)))
              all_goals go_wp2
              all_goals refine bodyPost_ret (v := .tuple #[.agg #[.int .i64 R1, .int .i64 R2], .bool R3]) (by simp only [results, Try.results8]; go_simp) rfl ?_
              all_goals refine ⟨by rw [ee.out.1, ee.out.2.1, ee.out.2.2], ?_⟩
              all_goals (repeat (first | with_reducible exact Below.refl _ _ | with_reducible assumption | with_reducible refine balloc ?_ _ | with_reducible refine bdrew ?_ | with_reducible refine below_drewN ?_ _ | with_reducible refine bset ?_ ?_ _ | with_reducible exact Nat.le_refl _ | with_reducible refine bsize ?_ | (dsimp only; refine Nat.le_trans ?_ (Nat.le_add_right _ _)) | with_reducible refine Nat.le_trans ?_ (Nat.le_add_right _ _) | (with_reducible refine bstep ?_ (by assumption))))
    · have hz : msB ws ss = false := by simp [msB, msK, hl]
      have hli : ¬ (ws.length : Int) = (ss.length : Int) := by omega
      obtain ⟨e1, e2, e3⟩ := ms_no hz
      rw [e1, e2, e3]; clear e1 e2 e3 hz
      go_enter Try.func8, Try.ntmps8
      go_wp2_with (go_at_call 13; refine (in_spec _ _ _ _).mono ?_; rintro e w9 ⟨rfl, rfl⟩; rw [hn])
      refine bodyPost_ret (v := .tuple #[.agg #[.int .i64 0, .int .i64 0], .bool false]) (by simp only [results, Try.results8]; go_simp) rfl ⟨rfl, ?_⟩
      (repeat (first | with_reducible exact Below.refl _ _ | with_reducible assumption | with_reducible refine balloc ?_ _ | with_reducible refine bdrew ?_ | with_reducible refine below_drewN ?_ _ | with_reducible refine bset ?_ ?_ _ | with_reducible exact Nat.le_refl _ | with_reducible refine bsize ?_ | (dsimp only; refine Nat.le_trans ?_ (Nat.le_add_right _ _)) | with_reducible refine Nat.le_trans ?_ (Nat.le_add_right _ _) | (with_reducible refine bstep ?_ (by assumption))))
end Go.Proofs.Ytbaaaaceejgofaa
