/- Several texts in one, in their order. -/
import Derived.Test.YtiafmojmanhdoaaPkD9b
import Derived.Test.YtiafmojmanhdoaaRInt
import Derived.Test.YtiafmojmanhdoaaLawBase
/- Puzzles: whether wells fit a clue, of both sides. -/
namespace Go.Proofs.Ytiafmojmanhdoaa
open Go.ChangeShapes Go.WideShapes Go.ChangeAt Go.RowKit Go.Joins
set_option maxRecDepth 100000
set_option linter.unusedVariables false
set_option linter.unusedSimpArgs false

def arB (m : Int) (ws : List Int) : Bool := miB m && risB m 0 ws
theorem ris_cons_eq (m b x : Int) (l : List Int) : risB m b (x :: l) = (inB x (b + 1) (m - 1) && risB m x l) := rfl
theorem drop_at {l : List Int} {k : Nat} {p : Int} (hp : l[k]? = some p) : l.drop k = p :: l.drop (k + 1) := by
  have h := (List.getElem?_eq_some_iff.1 hp)
  obtain ⟨h1, h2⟩ := h
  rw [List.drop_eq_getElem_cons h1, h2]
set_option maxHeartbeats 3200000 in
theorem are_impl9 (m : Int) (v : Value) (l : List Int) (w : World) (h : RowG 1 fInt w v l) :
    Calls Try.prog 54 #[.int .i64 m, v] w fun e w' => e = .returned (.bool (arB m l)) ∧ w = w' := by
  obtain ⟨a0, c0, rfl, hl1, hl2, hI⟩ := ints_of h
  have HI := Lib.hid hI
  clear h hI
  cases hm : miB m
  · have e : arB m l = false := by simp [arB, hm]
    rw [e]; clear e
    go_enter Try.func54, Try.ntmps54
    go_wp2_with (go_at_call 80; refine (mi_impl _ _).mono ?_; rintro e w1 ⟨rfl, rfl⟩; rw [hm])
    go_ret
    exact ⟨rfl, rfl⟩
  · have hm2 := miB_yes hm
    have e : arB m l = risB m 0 l := by simp [arB, hm]
    rw [e]; clear e
    obtain ⟨R, hR⟩ : ∃ R, Hid (risB m 0 l = R) := ⟨_, Lib.hid rfl⟩
    rw [hR.out]
    go_enter Try.func54, Try.ntmps54
    go_wp2_with (go_at_call 80; refine (mi_impl _ _).mono ?_; rintro e w1 ⟨rfl, rfl⟩; rw [hm])
    go_loopw [5, 13] (fun b i wr => ∃ (k : Nat) (B : Int), k ≤ l.length ∧ i = .int .i64 k ∧ b = .int .i64 B ∧ 0 ≤ B ∧ B ≤ 10 ∧ Hid (risB m B (l.drop k) = R) ∧ w = wr) (fun _ i _ => l.length - (intOf i).toNat)
    case atStart => exact ⟨0, 0, Nat.zero_le _, rfl, rfl, by omega, by omega, hR, rfl⟩
    case round =>
      obtain ⟨k, B, hk, rfl, rfl, hB0, hB1, hst, rfl⟩ := hrel
      by_cases hlt : k < l.length
      · obtain ⟨p, hp⟩ : ∃ p, l[k]? = some p := ⟨_, List.getElem?_eq_getElem hlt⟩
        obtain ⟨a, rfl, e0, b1, b2⟩ := HI.out k p hp
        have hs := hst.out
        rw [drop_at hp, ris_cons_eq] at hs
        clear hp hst
        cases hin : inB p (B + 1) (m - 1)
        · rw [hin] at hs
          have HS := Lib.hid (show R = false by rw [← hs]; rfl)
          clear hs
          go_wp2_with (go_at_call 76; refine (in_impl _ _ _ _).mono ?_; rintro e w1 ⟨rfl, rfl⟩; rw [hin])
          refine bodyPost_ret (v := .bool false) (by simp only [results, Try.results54]; go_simp) rfl ?_
          exact ⟨by rw [HS.out], rfl⟩
        · rw [hin, Bool.true_and] at hs
          have HS := Lib.hid hs
          have hpb : B + 1 ≤ p ∧ p ≤ m - 1 := by simpa [inB] using hin
          clear hs
          go_wp2_with (go_at_call 76; refine (in_impl _ _ _ _).mono ?_; rintro e w1 ⟨rfl, rfl⟩; rw [hin])
          go_roundw
          case rel => exact ⟨k + 1, p, by omega, by go_num, rfl, by omega, by omega, HS, trivial⟩
          case measure => simp [intOf]; omega
      · have HS := Lib.hid (show R = true by rw [← hst.out, List.drop_of_length_le (by omega)]; rfl)
        clear hst
        go_wp2
        refine bodyPost_ret (v := .bool true) (by simp only [results, Try.results54]; go_simp) rfl ?_
        exact ⟨by rw [HS.out], rfl⟩
set_option maxHeartbeats 6400000 in
theorem rising_spec (m : Int) (m1 : 1 ≤ m) (m2 : m ≤ 10) (v : Value) (l : List Int) (w : World) (h : RowG 1 fInt w v l) :
    Calls Try.prog 51 #[v, .int .i64 1, .int .i64 (m - 1)] w fun e w' => e = .returned (.bool (risB m 0 l)) ∧ w = w' := by
  obtain ⟨a0, c0, rfl, hl1, hl2, hI⟩ := ints_of h
  have HI := Lib.hid hI
  clear h hI
  obtain ⟨R, hR⟩ : ∃ R, Hid (risB m 0 l = R) := ⟨_, Lib.hid rfl⟩
  rw [hR.out]
  go_enter Try.func51, Try.ntmps51
  go_wp2
  go_loopw [11] (fun i wr => ∃ (k : Nat) (B : Int), k ≤ l.length ∧ i = .int .i64 k ∧ 0 ≤ B ∧ B ≤ 10 ∧ Hid ((k = 0 ∧ B = 0) ∨ (1 ≤ k ∧ 1 ≤ B ∧ l[k - 1]? = some B)) ∧ Hid (risB m B (l.drop k) = R) ∧ w = wr) (fun i _ => l.length - (intOf i).toNat)
  case atStart => exact ⟨0, 0, Nat.zero_le _, rfl, by omega, by omega, Lib.hid (Or.inl ⟨rfl, rfl⟩), hR, rfl⟩
  case round =>
    obtain ⟨k, B, hk, rfl, hB0, hB1, hbef, hst, rfl⟩ := hrel
    by_cases hlt : k < l.length
    · obtain ⟨p, hp⟩ : ∃ p, l[k]? = some p := ⟨_, List.getElem?_eq_getElem hlt⟩
      obtain ⟨a, rfl, e0, b1, b2⟩ := HI.out k p hp
      have hs := hst.out
      rw [drop_at hp, ris_cons_eq] at hs
      have HP := Lib.hid hp
      clear hp hst
      cases hin : inB p 1 (m - 1)
      · have h9 : inB p (B + 1) (m - 1) = false := by
          simp only [inB, decide_eq_false_iff_not] at hin ⊢
          omega
        rw [h9] at hs
        have HS := Lib.hid (show R = false by rw [← hs]; rfl)
        clear hs h9
        go_wp2_with (go_at_call 71; refine (in_spec _ _ _ _).mono ?_; rintro e w1 ⟨rfl, rfl⟩; rw [hin])
        refine bodyPost_ret (v := .bool false) (by simp only [results, Try.results51]; go_simp) rfl ?_
        exact ⟨by rw [HS.out], rfl⟩
      · have hpb : 1 ≤ p ∧ p ≤ m - 1 := by simpa [inB] using hin
        rcases hbef.out with ⟨hk0, hB⟩ | ⟨hk1, hB2, hlk⟩
        · have h9 : inB p (B + 1) (m - 1) = true := by simp only [inB, decide_eq_true_eq]; omega
          rw [h9, Bool.true_and] at hs
          have HS := Lib.hid hs
          have hk2 : ¬ (0 < (k : Int)) := by omega
          have HK := Lib.hid hk0
          clear hs h9 hbef hk0 hB
          go_wp2_with (go_at_call 71; refine (in_spec _ _ _ _).mono ?_; rintro e w1 ⟨rfl, rfl⟩; rw [hin])
          go_roundw
          case rel => exact ⟨k + 1, p, by omega, by go_num, by omega, by omega, Lib.hid (Or.inr ⟨by omega, by omega, HP.out⟩), HS, trivial⟩
          case measure => simp [intOf]; omega
        · obtain ⟨a', ha', e1, _, _⟩ := HI.out (k - 1) B hlk
          injection ha' with ha'
          subst ha'
          obtain ⟨j, hj⟩ : ∃ j, k = j + 1 := ⟨k - 1, by omega⟩
          have hk2 : 0 < (k : Int) := by omega
          have wq1 : IntKind.i64.wrap ((k : Int) - 1) = (k : Int) - 1 := IntWalk.i64_in _ (by omega)
          have wq2 : (0 : Int) ≤ (k : Int) - 1 := by omega
          have wq3 : (k : Int) - 1 < ((l.length : Nat) : Int) := by omega
          have wq4 : ((k : Int) - 1).toNat = k - 1 := by omega
          clear hj hbef hlk
          by_cases hBp : B < p
          · have h9 : inB p (B + 1) (m - 1) = true := by simp only [inB, decide_eq_true_eq]; omega
            rw [h9, Bool.true_and] at hs
            have HS := Lib.hid hs
            have hge : ¬ (p ≤ B) := by omega
            clear hs h9
            go_wp2_with (go_at_call 71; refine (in_spec _ _ _ _).mono ?_; rintro e w1 ⟨rfl, rfl⟩; rw [hin])
            go_roundw
            case rel => exact ⟨k + 1, p, by omega, by go_num, by omega, by omega, Lib.hid (Or.inr ⟨by omega, by omega, HP.out⟩), HS, trivial⟩
            case measure => simp [intOf]; omega
          · have h9 : inB p (B + 1) (m - 1) = false := by simp only [inB, decide_eq_false_iff_not]; omega
            rw [h9] at hs
            have HS := Lib.hid (show R = false by rw [← hs]; rfl)
            have hge : p ≤ B := by omega
            clear hs h9
            go_wp2_with (go_at_call 71; refine (in_spec _ _ _ _).mono ?_; rintro e w1 ⟨rfl, rfl⟩; rw [hin])
            refine bodyPost_ret (v := .bool false) (by simp only [results, Try.results51]; go_simp) rfl ?_
            exact ⟨by rw [HS.out], rfl⟩
    · have HS := Lib.hid (show R = true by rw [← hst.out, List.drop_of_length_le (by omega)]; rfl)
      clear hst hbef
      go_wp2
      refine bodyPost_ret (v := .bool true) (by simp only [results, Try.results51]; go_simp) rfl ?_
      exact ⟨by rw [HS.out], rfl⟩
/-- Can wells be asked of a clue? -/
def dfB (m k a b : Int) (ws : List Int) : Bool := clueB m k a b && risB m 0 ws
def dfA (m k a b : Int) (ws : List Int) : Bool := dfB m k a b ws && fitB m ⟨k, a, b⟩ ws
set_option maxHeartbeats 6400000 in
theorem doesFit_impl (m k a b : Int) (bm : -9223372036854775808 ≤ m ∧ m ≤ 9223372036854775807) (bk : -9223372036854775808 ≤ k ∧ k ≤ 9223372036854775807) (ba : -9223372036854775808 ≤ a ∧ a ≤ 9223372036854775807) (bb : -9223372036854775808 ≤ b ∧ b ≤ 9223372036854775807) (v : Value) (ws : List Int) (w : World) (h : RowG 1 fInt w v ws) :
    Calls Try.prog 17 #[.int .i64 m, .agg #[.int .i64 k, .int .i64 a, .int .i64 b], v] w fun e w' => e = .returned (.tuple #[.bool (dfA m k a b ws), .bool (dfB m k a b ws)]) ∧ Below w.heap.size w w' := by
  have HC := Lib.hid (fun W => isCl_impl m k a b bm bk ba bb W)
  have HA := Lib.hid (fun W (hB : Below w.heap.size w W) => are_impl9 m v ws W (rowG_below h hB))
  have HR := Lib.hid (fun W (hB : Below w.heap.size w W) => rowG_below h hB)
  obtain ⟨a0, c0, rfl, hl1, hl2⟩ := row_shape h
  clear h
  cases hc : clueB m k a b
  · have e1 : dfB m k a b ws = false := by simp [dfB, hc]
    have e2 : dfA m k a b ws = false := by simp [dfA, e1]
    rw [hc] at HC
    rw [e1, e2]
    clear e1 e2 hc HA HR
    go_enter Try.func17, Try.ntmps17
    go_wp2_with fail
    refine (HC.out _).mono ?_
    rintro e w1 ⟨rfl, hb1⟩
    go_wp2
    refine bodyPost_ret (v := .tuple #[.bool false, .bool false]) (by simp only [results, Try.results17]; go_simp) rfl ?_
    exact ⟨rfl, by (repeat (first | with_reducible exact Below.refl _ _ | with_reducible assumption | with_reducible refine balloc ?_ _ | with_reducible refine bdrew ?_ | with_reducible refine below_drewN ?_ _ | with_reducible refine bset ?_ ?_ _ | with_reducible exact Nat.le_refl _ | with_reducible refine bsize ?_ | (dsimp only; refine Nat.le_trans ?_ (Nat.le_add_right _ _)) | with_reducible refine Nat.le_trans ?_ (Nat.le_add_right _ _) | (with_reducible refine bstep ?_ (by assumption))))⟩
  · have hc2 := hc
    simp only [clueB, Bool.and_eq_true] at hc2
    obtain ⟨hmi, hcl⟩ := hc2
    have hm := miB_yes hmi
    rw [hc] at HC
    have eA : arB m ws = risB m 0 ws := by simp [arB, hmi]
    rw [eA] at HA
    cases hr : risB m 0 ws
    · have e1 : dfB m k a b ws = false := by simp [dfB, hr]
      have e2 : dfA m k a b ws = false := by simp [dfA, e1]
      rw [hr] at HA
      rw [e1, e2]
      clear e1 e2 hc hr hmi hcl eA HR
      go_enter Try.func17, Try.ntmps17
      go_wp2_with fail
      refine (HC.out _).mono ?_
      rintro e w1 ⟨rfl, hb1⟩
      have hbw1 : Below w.heap.size w w1 := by (repeat (first | with_reducible exact Below.refl _ _ | with_reducible assumption | with_reducible refine balloc ?_ _ | with_reducible refine bdrew ?_ | with_reducible refine below_drewN ?_ _ | with_reducible refine bset ?_ ?_ _ | with_reducible exact Nat.le_refl _ | with_reducible refine bsize ?_ | (dsimp only; refine Nat.le_trans ?_ (Nat.le_add_right _ _)) | with_reducible refine Nat.le_trans ?_ (Nat.le_add_right _ _) | (with_reducible refine bstep ?_ (by assumption))))
      go_wp2_with fail
      refine (HA.out _ hbw1).mono ?_
      rintro e w2 ⟨rfl, rfl⟩
      go_wp2
      refine bodyPost_ret (v := .tuple #[.bool false, .bool false]) (by simp only [results, Try.results17]; go_simp) rfl ?_
      exact ⟨rfl, hbw1⟩
    · have e1 : dfB m k a b ws = true := by simp [dfB, hc, hr]
      have e2 : dfA m k a b ws = fitB m ⟨k, a, b⟩ ws := by simp [dfA, e1]
      rw [hr] at HA
      rw [e1, e2]
      have HT := Lib.hid (fun W => tr_yes m k a b hm hcl W)
      obtain ⟨hk, _⟩ := clP_k hcl
      have HCL := Lib.hid hcl
      have HRR := Lib.hid hr
      obtain ⟨F, hF⟩ : ∃ F, Hid (fitB m ⟨k, a, b⟩ ws = F) := ⟨_, Lib.hid rfl⟩
      rw [hF.out]
      clear e1 e2 hc hr hmi hcl eA
      rcases hk with rfl | rfl | rfl | rfl | rfl | rfl
      · go_enter Try.func17, Try.ntmps17
        go_wp2_with fail
        refine (HC.out _).mono ?_
        rintro e w1 ⟨rfl, hb1⟩
        have hbw1 : Below w.heap.size w w1 := by (repeat (first | with_reducible exact Below.refl _ _ | with_reducible assumption | with_reducible refine balloc ?_ _ | with_reducible refine bdrew ?_ | with_reducible refine below_drewN ?_ _ | with_reducible refine bset ?_ ?_ _ | with_reducible exact Nat.le_refl _ | with_reducible refine bsize ?_ | (dsimp only; refine Nat.le_trans ?_ (Nat.le_add_right _ _)) | with_reducible refine Nat.le_trans ?_ (Nat.le_add_right _ _) | (with_reducible refine bstep ?_ (by assumption))))
        have hbx1 : Blk w.heap.size #[.int .i64 0, .int .i64 a, .int .i64 b] 27 w1 := (Blk.new w _ _).later hb1
        have q0 := hbx1.cell 0
        have q1 := hbx1.cell 1
        have q2 := hbx1.cell 2
        simp at q0 q1 q2
        clear hb1
        go_wp2_with fail
        refine (HA.out _ hbw1).mono ?_
        rintro e w2 ⟨rfl, rfl⟩
        go_wp2_with fail
        refine Calls.mono (HT.out _) ?_
        rintro e w3 ⟨u, rfl, hT, hb3⟩
        obtain ⟨g, gm, h1, h2, hu⟩ := hT
        simp [trV] at hu
        subst hu
        have hbw3 := bstep hbw1 hb3
        go_wp2_with fail
        refine (tri_0 m a b hm.1 hm.2 HCL.out g gm _ ws HRR.out _ (HR.out _ hbw3) h1 h2).mono ?_
        rintro e w4 ⟨rfl, hb4⟩
        rw [hF.out]
        have hbw4 := bstep hbw3 hb4
        clear h1 h2 hb3 hb4 q0 q1 q2
        go_wp2
        refine bodyPost_ret (v := .tuple #[.bool F, .bool true]) (by simp only [results, Try.results17]; go_simp) rfl ?_
        exact ⟨rfl, hbw4⟩
      · go_enter Try.func17, Try.ntmps17
        go_wp2_with fail
        refine (HC.out _).mono ?_
        rintro e w1 ⟨rfl, hb1⟩
        have hbw1 : Below w.heap.size w w1 := by (repeat (first | with_reducible exact Below.refl _ _ | with_reducible assumption | with_reducible refine balloc ?_ _ | with_reducible refine bdrew ?_ | with_reducible refine below_drewN ?_ _ | with_reducible refine bset ?_ ?_ _ | with_reducible exact Nat.le_refl _ | with_reducible refine bsize ?_ | (dsimp only; refine Nat.le_trans ?_ (Nat.le_add_right _ _)) | with_reducible refine Nat.le_trans ?_ (Nat.le_add_right _ _) | (with_reducible refine bstep ?_ (by assumption))))
        have hbx1 : Blk w.heap.size #[.int .i64 1, .int .i64 a, .int .i64 b] 27 w1 := (Blk.new w _ _).later hb1
        have q0 := hbx1.cell 0
        have q1 := hbx1.cell 1
        have q2 := hbx1.cell 2
        simp at q0 q1 q2
        clear hb1
        go_wp2_with fail
        refine (HA.out _ hbw1).mono ?_
        rintro e w2 ⟨rfl, rfl⟩
        go_wp2_with fail
        refine Calls.mono (HT.out _) ?_
        rintro e w3 ⟨u, rfl, hT, hb3⟩
        obtain ⟨g, gm, h1, h2, hu⟩ := hT
        simp [trV] at hu
        subst hu
        have hbw3 := bstep hbw1 hb3
        go_wp2_with fail
        refine (tri_1 m a b hm.1 hm.2 HCL.out g gm _ ws HRR.out _ (HR.out _ hbw3) h1 h2).mono ?_
        rintro e w4 ⟨rfl, hb4⟩
        rw [hF.out]
        have hbw4 := bstep hbw3 hb4
        clear h1 h2 hb3 hb4 q0 q1 q2
        go_wp2
        refine bodyPost_ret (v := .tuple #[.bool F, .bool true]) (by simp only [results, Try.results17]; go_simp) rfl ?_
        exact ⟨rfl, hbw4⟩
      · go_enter Try.func17, Try.ntmps17
        go_wp2_with fail
        refine (HC.out _).mono ?_
        rintro e w1 ⟨rfl, hb1⟩
        have hbw1 : Below w.heap.size w w1 := by (repeat (first | with_reducible exact Below.refl _ _ | with_reducible assumption | with_reducible refine balloc ?_ _ | with_reducible refine bdrew ?_ | with_reducible refine below_drewN ?_ _ | with_reducible refine bset ?_ ?_ _ | with_reducible exact Nat.le_refl _ | with_reducible refine bsize ?_ | (dsimp only; refine Nat.le_trans ?_ (Nat.le_add_right _ _)) | with_reducible refine Nat.le_trans ?_ (Nat.le_add_right _ _) | (with_reducible refine bstep ?_ (by assumption))))
        have hbx1 : Blk w.heap.size #[.int .i64 2, .int .i64 a, .int .i64 b] 27 w1 := (Blk.new w _ _).later hb1
        have q0 := hbx1.cell 0
        have q1 := hbx1.cell 1
        have q2 := hbx1.cell 2
        simp at q0 q1 q2
        clear hb1
        go_wp2_with fail
        refine (HA.out _ hbw1).mono ?_
        rintro e w2 ⟨rfl, rfl⟩
        go_wp2_with fail
        refine Calls.mono (HT.out _) ?_
        rintro e w3 ⟨u, rfl, hT, hb3⟩
        obtain ⟨g, gm, h1, h2, hu⟩ := hT
        simp [trV] at hu
        subst hu
        have hbw3 := bstep hbw1 hb3
        go_wp2_with fail
        refine (tri_2 m a b hm.1 hm.2 HCL.out g gm _ ws HRR.out _ (HR.out _ hbw3) h1 h2).mono ?_
        rintro e w4 ⟨rfl, hb4⟩
        rw [hF.out]
        have hbw4 := bstep hbw3 hb4
        clear h1 h2 hb3 hb4 q0 q1 q2
        go_wp2
        refine bodyPost_ret (v := .tuple #[.bool F, .bool true]) (by simp only [results, Try.results17]; go_simp) rfl ?_
        exact ⟨rfl, hbw4⟩
      · go_enter Try.func17, Try.ntmps17
        go_wp2_with fail
        refine (HC.out _).mono ?_
        rintro e w1 ⟨rfl, hb1⟩
        have hbw1 : Below w.heap.size w w1 := by (repeat (first | with_reducible exact Below.refl _ _ | with_reducible assumption | with_reducible refine balloc ?_ _ | with_reducible refine bdrew ?_ | with_reducible refine below_drewN ?_ _ | with_reducible refine bset ?_ ?_ _ | with_reducible exact Nat.le_refl _ | with_reducible refine bsize ?_ | (dsimp only; refine Nat.le_trans ?_ (Nat.le_add_right _ _)) | with_reducible refine Nat.le_trans ?_ (Nat.le_add_right _ _) | (with_reducible refine bstep ?_ (by assumption))))
        have hbx1 : Blk w.heap.size #[.int .i64 3, .int .i64 a, .int .i64 b] 27 w1 := (Blk.new w _ _).later hb1
        have q0 := hbx1.cell 0
        have q1 := hbx1.cell 1
        have q2 := hbx1.cell 2
        simp at q0 q1 q2
        clear hb1
        go_wp2_with fail
        refine (HA.out _ hbw1).mono ?_
        rintro e w2 ⟨rfl, rfl⟩
        go_wp2_with fail
        refine Calls.mono (HT.out _) ?_
        rintro e w3 ⟨u, rfl, hT, hb3⟩
        obtain ⟨g, gm, h1, h2, hu⟩ := hT
        simp [trV] at hu
        subst hu
        have hbw3 := bstep hbw1 hb3
        go_wp2_with fail
        refine (tri_3 m a b hm.1 hm.2 HCL.out g gm _ ws HRR.out _ (HR.out _ hbw3) h1 h2).mono ?_
        rintro e w4 ⟨rfl, hb4⟩
        rw [hF.out]
        have hbw4 := bstep hbw3 hb4
        clear h1 h2 hb3 hb4 q0 q1 q2
        go_wp2
        refine bodyPost_ret (v := .tuple #[.bool F, .bool true]) (by simp only [results, Try.results17]; go_simp) rfl ?_
        exact ⟨rfl, hbw4⟩
      · go_enter Try.func17, Try.ntmps17
        go_wp2_with fail
        refine (HC.out _).mono ?_
        rintro e w1 ⟨rfl, hb1⟩
        have hbw1 : Below w.heap.size w w1 := by (repeat (first | with_reducible exact Below.refl _ _ | with_reducible assumption | with_reducible refine balloc ?_ _ | with_reducible refine bdrew ?_ | with_reducible refine below_drewN ?_ _ | with_reducible refine bset ?_ ?_ _ | with_reducible exact Nat.le_refl _ | with_reducible refine bsize ?_ | (dsimp only; refine Nat.le_trans ?_ (Nat.le_add_right _ _)) | with_reducible refine Nat.le_trans ?_ (Nat.le_add_right _ _) | (with_reducible refine bstep ?_ (by assumption))))
        have hbx1 : Blk w.heap.size #[.int .i64 4, .int .i64 a, .int .i64 b] 27 w1 := (Blk.new w _ _).later hb1
        have q0 := hbx1.cell 0
        have q1 := hbx1.cell 1
        have q2 := hbx1.cell 2
        simp at q0 q1 q2
        clear hb1
        go_wp2_with fail
        refine (HA.out _ hbw1).mono ?_
        rintro e w2 ⟨rfl, rfl⟩
        go_wp2_with fail
        refine Calls.mono (HT.out _) ?_
        rintro e w3 ⟨u, rfl, hT, hb3⟩
        obtain ⟨g, gm, h1, h2, hu⟩ := hT
        simp [trV] at hu
        subst hu
        have hbw3 := bstep hbw1 hb3
        go_wp2_with fail
        refine (tri_4 m a b hm.1 hm.2 HCL.out g gm _ ws HRR.out _ (HR.out _ hbw3) h1 h2).mono ?_
        rintro e w4 ⟨rfl, hb4⟩
        rw [hF.out]
        have hbw4 := bstep hbw3 hb4
        clear h1 h2 hb3 hb4 q0 q1 q2
        go_wp2
        refine bodyPost_ret (v := .tuple #[.bool F, .bool true]) (by simp only [results, Try.results17]; go_simp) rfl ?_
        exact ⟨rfl, hbw4⟩
      · go_enter Try.func17, Try.ntmps17
        go_wp2_with fail
        refine (HC.out _).mono ?_
        rintro e w1 ⟨rfl, hb1⟩
        have hbw1 : Below w.heap.size w w1 := by (repeat (first | with_reducible exact Below.refl _ _ | with_reducible assumption | with_reducible refine balloc ?_ _ | with_reducible refine bdrew ?_ | with_reducible refine below_drewN ?_ _ | with_reducible refine bset ?_ ?_ _ | with_reducible exact Nat.le_refl _ | with_reducible refine bsize ?_ | (dsimp only; refine Nat.le_trans ?_ (Nat.le_add_right _ _)) | with_reducible refine Nat.le_trans ?_ (Nat.le_add_right _ _) | (with_reducible refine bstep ?_ (by assumption))))
        have hbx1 : Blk w.heap.size #[.int .i64 5, .int .i64 a, .int .i64 b] 27 w1 := (Blk.new w _ _).later hb1
        have q0 := hbx1.cell 0
        have q1 := hbx1.cell 1
        have q2 := hbx1.cell 2
        simp at q0 q1 q2
        clear hb1
        go_wp2_with fail
        refine (HA.out _ hbw1).mono ?_
        rintro e w2 ⟨rfl, rfl⟩
        go_wp2_with fail
        refine Calls.mono (HT.out _) ?_
        rintro e w3 ⟨u, rfl, hT, hb3⟩
        obtain ⟨g, gm, h1, h2, hu⟩ := hT
        simp [trV] at hu
        subst hu
        have hbw3 := bstep hbw1 hb3
        go_wp2_with fail
        refine (tri_5 m a b hm.1 hm.2 HCL.out g gm _ ws HRR.out _ (HR.out _ hbw3) h1 h2).mono ?_
        rintro e w4 ⟨rfl, hb4⟩
        rw [hF.out]
        have hbw4 := bstep hbw3 hb4
        clear h1 h2 hb3 hb4 q0 q1 q2
        go_wp2
        refine bodyPost_ret (v := .tuple #[.bool F, .bool true]) (by simp only [results, Try.results17]; go_simp) rfl ?_
        exact ⟨rfl, hbw4⟩
set_option maxHeartbeats 6400000 in
theorem doesFit_spec (m k a b : Int) (v : Value) (ws : List Int) (w : World) (h : RowG 1 fInt w v ws) :
    Calls Try.prog 14 #[.int .i64 m, .agg #[.int .i64 k, .int .i64 a, .int .i64 b], v] w fun e w' => e = .returned (.tuple #[.bool (dfA m k a b ws), .bool (dfB m k a b ws)]) ∧ Below w.heap.size w w' := by
  have HM := Lib.hid (fun W => mi_spec m W)
  have HR := Lib.hid (fun W (hB : Below w.heap.size w W) => rowG_below h hB)
  obtain ⟨a0, c0, rfl, hl1, hl2⟩ := row_shape h
  clear h
  cases hmi : miB m
  · have e1 : dfB m k a b ws = false := by simp [dfB, clueB, hmi]
    have e2 : dfA m k a b ws = false := by simp [dfA, e1]
    rw [hmi] at HM
    rw [e1, e2]
    clear e1 e2 hmi HR
    go_enter Try.func14, Try.ntmps14
    go_wp2_with fail
    refine (HM.out _).mono ?_
    rintro e w1 ⟨rfl, rfl⟩
    go_wp2
    refine bodyPost_ret (v := .tuple #[.bool false, .bool false]) (by simp only [results, Try.results14]; go_simp) rfl ?_
    exact ⟨rfl, by (repeat (first | with_reducible exact Below.refl _ _ | with_reducible assumption | with_reducible refine balloc ?_ _ | with_reducible refine bdrew ?_ | with_reducible refine below_drewN ?_ _ | with_reducible refine bset ?_ ?_ _ | with_reducible exact Nat.le_refl _ | with_reducible refine bsize ?_ | (dsimp only; refine Nat.le_trans ?_ (Nat.le_add_right _ _)) | with_reducible refine Nat.le_trans ?_ (Nat.le_add_right _ _) | (with_reducible refine bstep ?_ (by assumption))))⟩
  · have hm := miB_yes hmi
    have HC := Lib.hid (fun W => cl_spec m k a b hm W)
    have HI := Lib.hid (fun W (hB : Below w.heap.size w W) => rising_spec m hm.1 hm.2 _ ws W (HR.out W hB))
    rw [hmi] at HM
    cases hcl : clB m k a b
    · have e1 : dfB m k a b ws = false := by simp [dfB, clueB, hcl]
      have e2 : dfA m k a b ws = false := by simp [dfA, e1]
      rw [hcl] at HC
      rw [e1, e2]
      clear e1 e2 hmi hcl HR HI
      go_enter Try.func14, Try.ntmps14
      go_wp2_with fail
      refine (HM.out _).mono ?_
      rintro e w1 ⟨rfl, rfl⟩
      go_wp2_with fail
      refine (HC.out _).mono ?_
      rintro e w2 ⟨rfl, hb2⟩
      go_wp2
      refine bodyPost_ret (v := .tuple #[.bool false, .bool false]) (by simp only [results, Try.results14]; go_simp) rfl ?_
      exact ⟨rfl, by (repeat (first | with_reducible exact Below.refl _ _ | with_reducible assumption | with_reducible refine balloc ?_ _ | with_reducible refine bdrew ?_ | with_reducible refine below_drewN ?_ _ | with_reducible refine bset ?_ ?_ _ | with_reducible exact Nat.le_refl _ | with_reducible refine bsize ?_ | (dsimp only; refine Nat.le_trans ?_ (Nat.le_add_right _ _)) | with_reducible refine Nat.le_trans ?_ (Nat.le_add_right _ _) | (with_reducible refine bstep ?_ (by assumption))))⟩
    · rw [hcl] at HC
      cases hr : risB m 0 ws
      · have e1 : dfB m k a b ws = false := by simp [dfB, hr]
        have e2 : dfA m k a b ws = false := by simp [dfA, e1]
        rw [hr] at HI
        rw [e1, e2]
        clear e1 e2 hmi hcl HR hr
        go_enter Try.func14, Try.ntmps14
        go_wp2_with fail
        refine (HM.out _).mono ?_
        rintro e w1 ⟨rfl, rfl⟩
        go_wp2_with fail
        refine (HC.out _).mono ?_
        rintro e w2 ⟨rfl, hb2⟩
        have hbw2 : Below w.heap.size w w2 := by (repeat (first | with_reducible exact Below.refl _ _ | with_reducible assumption | with_reducible refine balloc ?_ _ | with_reducible refine bdrew ?_ | with_reducible refine below_drewN ?_ _ | with_reducible refine bset ?_ ?_ _ | with_reducible exact Nat.le_refl _ | with_reducible refine bsize ?_ | (dsimp only; refine Nat.le_trans ?_ (Nat.le_add_right _ _)) | with_reducible refine Nat.le_trans ?_ (Nat.le_add_right _ _) | (with_reducible refine bstep ?_ (by assumption))))
        go_wp2_with fail
        refine (HI.out _ hbw2).mono ?_
        rintro e w3 ⟨rfl, rfl⟩
        go_wp2
        refine bodyPost_ret (v := .tuple #[.bool false, .bool false]) (by simp only [results, Try.results14]; go_simp) rfl ?_
        exact ⟨rfl, hbw2⟩
      · have e1 : dfB m k a b ws = true := by simp [dfB, clueB, hmi, hcl, hr]
        have e2 : dfA m k a b ws = fitB m ⟨k, a, b⟩ ws := by simp [dfA, e1]
        have HF := Lib.hid (fun W (hB : Below w.heap.size w W) => fits_spec m k a b hm.1 hm.2 hcl _ ws hr W (HR.out W hB))
        rw [hr] at HI
        rw [e1, e2]
        clear e1 e2 hmi hcl HR hr
        generalize fitB m ⟨k, a, b⟩ ws = F at *
        go_enter Try.func14, Try.ntmps14
        go_wp2_with fail
        refine (HM.out _).mono ?_
        rintro e w1 ⟨rfl, rfl⟩
        go_wp2_with fail
        refine (HC.out _).mono ?_
        rintro e w2 ⟨rfl, hb2⟩
        have hbw2 : Below w.heap.size w w2 := by (repeat (first | with_reducible exact Below.refl _ _ | with_reducible assumption | with_reducible refine balloc ?_ _ | with_reducible refine bdrew ?_ | with_reducible refine below_drewN ?_ _ | with_reducible refine bset ?_ ?_ _ | with_reducible exact Nat.le_refl _ | with_reducible refine bsize ?_ | (dsimp only; refine Nat.le_trans ?_ (Nat.le_add_right _ _)) | with_reducible refine Nat.le_trans ?_ (Nat.le_add_right _ _) | (with_reducible refine bstep ?_ (by assumption))))
        have hbx2 : Blk w.heap.size #[.int .i64 k, .int .i64 a, .int .i64 b] 27 w2 := (Blk.new w _ _).later hb2
        have q0 := hbx2.cell 0
        have q1 := hbx2.cell 1
        have q2 := hbx2.cell 2
        simp at q0 q1 q2
        clear hb2
        go_wp2_with fail
        refine (HI.out _ hbw2).mono ?_
        rintro e w3 ⟨rfl, rfl⟩
        go_wp2_with fail
        refine (HF.out _ hbw2).mono ?_
        rintro e w4 ⟨rfl, hb4⟩
        have hbw4 := bstep hbw2 hb4
        clear q0 q1 q2 hbx2 hb4
        go_wp2
        refine bodyPost_ret (v := .tuple #[.bool F, .bool true]) (by simp only [results, Try.results14]; go_simp) rfl ?_
        exact ⟨rfl, hbw4⟩
end Go.Proofs.Ytiafmojmanhdoaa

/- The laws' helpers on lists of whole numbers: the copy is a row of its own. -/
namespace Go.Proofs.Ytiafmojmanhdoaa
open Go.ChangeShapes Go.WideShapes Go.ChangeAt Go.RowKit Go.Joins
set_option maxRecDepth 100000
set_option linter.unusedVariables false
set_option linter.unusedSimpArgs false

theorem cellI {w : World} {a : Addr} {cap : Nat} {l : List Int} (h : LiesG 1 fInt w a cap l) {k : Nat} {x : Int} (hp : l[k]? = some x) : w.cell? (a.add k) = some (.int .i64 x) := by
  have := h.hcell k x hp 0 x rfl
  rwa [Nat.mul_one, Nat.add_zero] at this
theorem trod_int1 {H : Type} {enc : TypeId × Value → H} {W : World} {base fuel : Nat} {spare : Nat → Bool} {held : Bool} {cs : List Value} {x : DataW H × List MemPlace} (h : DataW.trod enc Try.prog W base spare held fuel 3 cs = some x) :
    ∃ p : Int, cs = (fInt p).map (Value.int .i64) ∧ ∀ y ∈ fInt p, -9223372036854775808 ≤ y ∧ y ≤ 9223372036854775807 := by
  obtain ⟨p, rfl, hp⟩ := trod_cell h
  exact ⟨p, rfl, by simpa [fInt] using hp⟩
set_option maxHeartbeats 1600000 in
theorem to_ints_some (a : Addr) (cap : Nat) (l : List Int) (w : World) (hL : LiesG 1 fInt w a cap l) (hn : l.length ≤ 1048576) :
    Calls Try.prog 16 #[.slice (some a) l.length cap] w (EndCopyG 3 1 fInt l w) := by
  have hlc := hL.hlc
  have hcap := hL.hcap
  obtain ⟨i0, hi, hz0, hz1, hz2⟩ := info_parts infoInt
  go_enter Try.func16, Try.ntmps16
  go_wp2_with (at_make; refine wpList_make_full _ rfl _ _ 24 rfl w.heap.size 3 i0 (.int .i64 0) 1 Try.underlying24 hi hz0 hz1 .i64 .i64 _ _ l.length rfl rfl rfl rfl (by rw [hz2]; omega) (by unfold maxLen; omega) (Nat.le_refl _) ?_)
  intro w1 hown1 hgr1
  have hB1 : Below w.heap.size w w1 := (Below.refl _ _).grown hgr1 (Nat.le_refl _) (fun k e => by cases e)
  go_wp2
  go_loopw [4] (fun i wr => ∃ (k : Nat) (xs : List Value), k ≤ l.length ∧ i = .int .i64 k ∧ wr.ownsRow w.heap.size 3 1 (.slice (some ⟨w.heap.size, 0, none⟩) l.length l.length) l.length xs ∧
      (∀ (i : Nat) (x : Int), i < k → l[i]? = some x → xs[i]? = some (.int .i64 x)) ∧ Below w.heap.size w wr) (fun i _ => l.length - (intOf i).toNat)
  case atStart => exact ⟨0, _, Nat.zero_le _, rfl, hown1, fun j p h => absurd h (by omega), hB1⟩
  case round =>
    clear hown1 hgr1 hB1
    obtain ⟨k, xs, hk, rfl, hown, hall, hbel⟩ := hrel
    by_cases hlt : k < l.length
    · obtain ⟨p, hp⟩ : ∃ p, l[k]? = some p := ⟨_, List.getElem?_eq_getElem hlt⟩
      have e0 := cellI (liesG_below hL hbel) hp
      have hlen := hown.1
      have f0 := hown.frozenAt k
      obtain ⟨u0, hu0⟩ : ∃ u, wr.cell? ⟨w.heap.size, k, none⟩ = some u := by
        rw [hown.cellAt k (by omega)]; exact ⟨_, List.getElem?_eq_getElem (by omega)⟩
      obtain ⟨st0, gr0⟩ := hown.stored k (.int .i64 p)
      clear hown
      go_wp2
      first | go_region | skip
      all_goals
        (try go_wp2)
        go_roundw
        case rel =>
          refine ⟨k + 1, xs.set k (.int .i64 p), by omega, by go_num, st0, ?_, ?_⟩
          · intro i x hi hx
            by_cases hik : i = k
            · subst hik
              rw [hp] at hx
              injection hx with hx
              subst hx
              rw [List.getElem?_set_self (by first | omega | (simp; omega))]
            · rw [List.getElem?_set_ne (by omega)]
              exact hall i x (by omega) hx
          · (repeat (first | with_reducible exact Below.refl _ _ | with_reducible assumption | with_reducible refine balloc ?_ _ | with_reducible refine bdrew ?_ | with_reducible refine below_drewN ?_ _ | with_reducible refine bset ?_ ?_ _ | with_reducible exact Nat.le_refl _ | with_reducible refine bsize ?_ | (dsimp only; refine Nat.le_trans ?_ (Nat.le_add_right _ _)) | with_reducible refine Nat.le_trans ?_ (Nat.le_add_right _ _) | (with_reducible refine bstep ?_ (by assumption))))
        case measure => simp [intOf]; omega
    · have hkn : k = l.length := by omega
      subst hkn
      have hxs : xs = cellsG fInt l := cellsG_ext fInt_len (by omega) l xs hown.1 (fun i x hx j y hy => by
        have hj : j = 0 := by
          have := (List.getElem?_eq_some_iff.1 hy).1
          simp [fInt] at this; omega
        subst hj
        simp [fInt] at hy
        subst hy
        rw [Nat.mul_one, Nat.add_zero]
        exact hall i _ ((List.getElem?_eq_some_iff.1 hx).1) hx)
      rw [hxs] at hown
      clear hxs hall
      go_wp2
      go_ret
      exact ⟨_, rfl, hown, hbel⟩
set_option maxHeartbeats 800000 in
theorem to_ints_nil (w : World) : Calls Try.prog 16 #[.slice none 0 0] w (EndCopyG 3 1 fInt [] w) := by
  obtain ⟨i0, hi, hz0, hz1, hz2⟩ := info_parts infoInt
  go_enter Try.func16, Try.ntmps16
  go_wp2_with (at_make; refine wpList_make_full _ rfl _ _ 24 rfl w.heap.size 3 i0 (.int .i64 0) 1 Try.underlying24 hi hz0 hz1 .i64 .i64 _ _ 0 rfl rfl rfl rfl (by rw [hz2]; omega) (by unfold maxLen; omega) (Nat.le_refl _) ?_)
  intro w1 hown1 hgr1
  have hB1 : Below w.heap.size w w1 := (Below.refl _ _).grown hgr1 (Nat.le_refl _) (fun k e => by cases e)
  go_wp2
  go_loopw [4] (fun i wr => i = .int .i64 0 ∧ wr = w1) (fun _ _ => 0)
  case atStart => exact ⟨rfl, rfl⟩
  case round =>
    obtain ⟨rfl, rfl⟩ := hrel
    go_wp2
    go_ret
    refine ⟨_, rfl, ?_, hB1⟩
    have e := List.length_eq_zero_iff.1 (hown1.1.trans (Nat.zero_mul 1))
    rw [e] at hown1
    exact hown1
end Go.Proofs.Ytiafmojmanhdoaa
