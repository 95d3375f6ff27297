/- Camels: OneStop of the model; both sides, at all arguments. -/
import Derived.Test.YtkignanlkakdpaaCamS
import Derived.Test.YtkignanlkakdpaaCamW
namespace Go.Proofs.Ytkignanlkakdpaa
open Go.ChangeShapes Go.WideShapes Go.ChangeAt Go.RowKit Go.Joins
set_option maxRecDepth 100000
set_option linter.unusedVariables false
set_option linter.unusedSimpArgs false

theorem os_iff (E d p q r s : Int) (hE : 1 ≤ E) (hd : 1 ≤ d) : decide (d * s * p * E ≤ d * q * r * E) = decide (p * s ≤ r * q) := by
  have h := Int.mul_pos (show 0 < d by omega) (show 0 < E by omega)
  have e1 : d * s * p * E = d * E * (p * s) := by ac_rfl
  have e2 : d * q * r * E = d * E * (r * q) := by ac_rfl
  rw [e1, e2, decide_eq_decide]
  constructor
  · intro hh; exact Int.le_of_mul_le_mul_left hh h
  · intro hh; exact Int.mul_le_mul_of_nonneg_left hh (by omega)
set_option maxHeartbeats 3200000 in
theorem caStop_spec (L E n d p q r s : Int) (hL : 1 ≤ L) (hL2 : L ≤ 12) (hE : 1 ≤ E) (hE2 : E ≤ 12) (hn : 0 ≤ n) (hd : 1 ≤ d) (hd2 : d ≤ 12) (hn6 : n ≤ 6 * L * d) (hp : 0 ≤ p) (hp2 : p ≤ 1000000000) (hq : 1 ≤ q) (hq2 : q ≤ 1000000) (hr : 0 ≤ r) (hr2 : r ≤ 1000000000) (hs : 1 ≤ s) (hs2 : s ≤ 1000000) (ap : Am p q) (ar : Am r s) (w : World) :
    Calls Try.prog 81 #[.agg #[.int .i64 L, .int .i64 E], .agg #[.int .i64 n, .int .i64 d], .agg #[.int .i64 p, .int .i64 q], .agg #[.int .i64 r, .int .i64 s]] w fun e w' => e = .returned (.tuple #[.agg #[.int .i64 (twoN (decide (p * s ≤ r * q)) (osB L E n d p q r s) (d * q * s)), .int .i64 (twoD (decide (p * s ≤ r * q)) (osB L E n d p q r s) (d * q * s))], .bool (twoB (decide (p * s ≤ r * q)) (osB L E n d p q r s) (d * q * s))]) ∧ Below w.heap.size w w' := by
  have H := cam_in L E d n hL hL2 hE hE2 hd hd2 hn hn6
  have hn2 := H.n2
  have HC := Lib.hid (fun W => cmp_spec p q r s ap ar W)
  by_cases hc : p * s ≤ r * q
  · rw [decide_eq_true hc, (two_yes _ _).1, (two_yes _ _).2.1, (two_yes _ _).2.2]
    have hsg := sg_le (p * s - r * q) (by omega)
    obtain ⟨sg, hsgE⟩ : ∃ sg, sgI (p * s - r * q) = sg := ⟨_, rfl⟩
    rw [hsgE] at HC hsg
    obtain ⟨hsg1, hsg2⟩ := hsg
    have hdec := os_iff E d p q r s hE hd
    rw [decide_eq_true hc, decide_eq_true_eq] at hdec
    have HT := Lib.hid (fun W => ctrips_spec L E n d hL hL2 hd (by omega) W)
    have ta := H.ht.a
    have tb := H.ht.b
    have HR := Lib.hid (fun W => rate_spec L E (trp (L * d) n) (by omega) (by omega) hE hE2 W)
    have hR1 := Int.mul_pos (show 0 < 2 * (trp (L * d) n : Int) - 1 by omega) (show 0 < E by omega)
    have hR2 := mul_le2 (2 * (trp (L * d) n : Int) - 1) E 11 12 (by omega) (by omega) (by omega) hE2
    have HO := Lib.hid (fun W => once_spec n d 0 1 ((2 * (trp (L * d) n : Int) - 1) * E) p q (once_bd n d 0 1 ((2 * (trp (L * d) n : Int) - 1) * E) p q hn (by omega) hd hd2 (by omega) (by omega) (by omega) (by omega) (by omega) (by omega) hp hp2 hq hq2) W)
    have e7 : n * 1 + (2 * (trp (L * d) n : Int) - 1) * E * 0 * d = n := by rw [Int.mul_zero, Int.zero_mul, Int.mul_one, Int.add_zero]
    have e8 : 1 * d = d := Int.one_mul _
    rw [e7, e8] at HO
    have etn : rdN n d * q - (2 * (trp (L * d) n : Int) - 1) * E * p * rdD n d = thN L E n d p q := rfl
    have etd : rdD n d * q = thD n d q := rfl
    rw [etn, etd] at HO
    have hth := th_is L E n d p q s hd hq hs
    have htd := hth.c
    clear e7 e8 etn etd
    by_cases hneg : thN L E n d p q < 0
    · have hA : osA L E n d p q s < 0 := by
        rw [hth.a]
        exact Int.mul_neg_of_pos_of_neg (by have := hth.g1; omega) hneg
      have hz := os_neg L E n d p q r s hdec hA
      obtain ⟨z1, z2, z3⟩ := low_neg _ (d * q * s) hz
      rw [z1, z2, z3]
      clear z1 z2 z3 hz hA hth hdec hsgE
      generalize thN L E n d p q = tn at *
      generalize thD n d q = td at *
      generalize ((2 * (trp (L * d) n : Int) - 1) * E) = r1 at *
      generalize trp (L * d) n = t1 at *
      go_enter Try.func81, Try.ntmps81
      go_upto_region 1 with fail
      change Code.wp _ _ _ _ (((((w.alloc (.cells #[.int .i64 L, .int .i64 E] 25)).alloc (.cells #[.int .i64 n, .int .i64 d] 32)).alloc (.cells #[.int .i64 p, .int .i64 q] 32)).alloc (.cells #[.int .i64 r, .int .i64 s] 32)).alloc (.cells #[.int .i64 0, .int .i64 0] 32))
      generalize hV : (((((w.alloc (.cells #[.int .i64 L, .int .i64 E] 25)).alloc (.cells #[.int .i64 n, .int .i64 d] 32)).alloc (.cells #[.int .i64 p, .int .i64 q] 32)).alloc (.cells #[.int .i64 r, .int .i64 s] 32)).alloc (.cells #[.int .i64 0, .int .i64 0] 32)) = V
      have c1 : V.cell? ⟨w.heap.size, 0, none⟩ = some (.int .i64 L) := by subst hV; simp [go_sem]
      have c2 : V.cell? ⟨w.heap.size, 1, none⟩ = some (.int .i64 E) := by subst hV; simp [go_sem]
      have c3 : V.cell? ⟨w.heap.size + 1, 0, none⟩ = some (.int .i64 n) := by subst hV; simp [go_sem]
      have c4 : V.cell? ⟨w.heap.size + 1, 1, none⟩ = some (.int .i64 d) := by subst hV; simp [go_sem]
      have c5 : V.cell? ⟨w.heap.size + 1 + 1, 0, none⟩ = some (.int .i64 p) := by subst hV; simp [go_sem]
      have c6 : V.cell? ⟨w.heap.size + 1 + 1, 1, none⟩ = some (.int .i64 q) := by subst hV; simp [go_sem]
      have c7 : V.cell? ⟨w.heap.size + 1 + 1 + 1, 0, none⟩ = some (.int .i64 r) := by subst hV; simp [go_sem]
      have c8 : V.cell? ⟨w.heap.size + 1 + 1 + 1, 1, none⟩ = some (.int .i64 s) := by subst hV; simp [go_sem]
      have hr0 : HasRes (w.heap.size + 1 + 1 + 1 + 1) V := ⟨.int .i64 0, .int .i64 0, by subst hV; simp [go_sem], by subst hV; simp [go_sem], by subst hV; simp [go_sem], by subst hV; simp [go_sem], by subst hV; simp⟩
      have hs0 : w.heap.size + 1 + 1 + 1 + 1 < V.heap.size := by subst hV; simp
      have hbw : Below w.heap.size w V := by subst hV; (repeat (first | with_reducible exact Below.refl _ _ | with_reducible assumption | with_reducible refine balloc ?_ _ | with_reducible refine bdrew ?_ | with_reducible refine below_drewN ?_ _ | with_reducible refine bset ?_ ?_ _ | with_reducible exact Nat.le_refl _ | with_reducible refine bsize ?_ | (dsimp only; refine Nat.le_trans ?_ (Nat.le_add_right _ _)) | with_reducible refine Nat.le_trans ?_ (Nat.le_add_right _ _) | (with_reducible refine bstep ?_ (by assumption))))
      clear hV
      go_wp2_with fail
      refine (HC.out _).mono ?_
      rintro e w1 ⟨rfl, hb1⟩
      have f0 : Below V.heap.size V w1 := bstep (by (repeat (first | with_reducible exact Below.refl _ _ | with_reducible assumption | with_reducible refine balloc ?_ _ | with_reducible refine bdrew ?_ | with_reducible refine below_drewN ?_ _ | with_reducible refine bset ?_ ?_ _ | with_reducible exact Nat.le_refl _ | with_reducible refine bsize ?_ | (dsimp only; refine Nat.le_trans ?_ (Nat.le_add_right _ _)) | with_reducible refine Nat.le_trans ?_ (Nat.le_add_right _ _) | (with_reducible refine bstep ?_ (by assumption))))) hb1
      replace c1 := keepa f0 (by omega) c1
      replace c2 := keepa f0 (by omega) c2
      replace c3 := keepa f0 (by omega) c3
      replace c4 := keepa f0 (by omega) c4
      replace c5 := keepa f0 (by omega) c5
      replace c6 := keepa f0 (by omega) c6
      replace c7 := keepa f0 (by omega) c7
      replace c8 := keepa f0 (by omega) c8
      replace hr0 := hr0.later f0
      replace hbw := bstep hbw f0
      replace hs0 := Nat.lt_of_lt_of_le hs0 f0.size
      clear f0 hb1
      go_upto_region 3 with fail
      go_cut [10] (fun s10 wx => ∃ gb : Nat, s10 = .pointer (some ⟨gb, 0, none⟩) ∧ wx.cell? ⟨gb, 0, none⟩ = some (.int .i64 tn) ∧ wx.cell? ⟨gb, 1, none⟩ = some (.int .i64 td) ∧ gb < wx.heap.size ∧ Below w1.heap.size w1 wx)
      case first =>
        have hS := Lib.hid (fun (W : World) (h : Below w1.heap.size w1 W) => (⟨h, keepa h (by omega) c1, keepa h (by omega) c2, keepa h (by omega) c3, keepa h (by omega) c4, keepa h (by omega) c5, keepa h (by omega) c6⟩ : Below w1.heap.size w1 W ∧ W.cell? ⟨w.heap.size, 0, none⟩ = some (.int .i64 L) ∧ W.cell? ⟨w.heap.size, 1, none⟩ = some (.int .i64 E) ∧ W.cell? ⟨w.heap.size + 1, 0, none⟩ = some (.int .i64 n) ∧ W.cell? ⟨w.heap.size + 1, 1, none⟩ = some (.int .i64 d) ∧ W.cell? ⟨w.heap.size + 1 + 1, 0, none⟩ = some (.int .i64 p) ∧ W.cell? ⟨w.heap.size + 1 + 1, 1, none⟩ = some (.int .i64 q)))
        go_region_held3 (fun W => Below w1.heap.size w1 W ∧ W.cell? ⟨w.heap.size, 0, none⟩ = some (.int .i64 L) ∧ W.cell? ⟨w.heap.size, 1, none⟩ = some (.int .i64 E) ∧ W.cell? ⟨w.heap.size + 1, 0, none⟩ = some (.int .i64 n) ∧ W.cell? ⟨w.heap.size + 1, 1, none⟩ = some (.int .i64 d) ∧ W.cell? ⟨w.heap.size + 1 + 1, 0, none⟩ = some (.int .i64 p) ∧ W.cell? ⟨w.heap.size + 1 + 1, 1, none⟩ = some (.int .i64 q)) ((refine hS.out _ ?_; first | with_reducible assumption | ((repeat (first | with_reducible exact Below.refl _ _ | with_reducible assumption | with_reducible refine balloc ?_ _ | with_reducible refine bdrew ?_ | with_reducible refine below_drewN ?_ _ | with_reducible refine bset ?_ ?_ _ | with_reducible exact Nat.le_refl _ | with_reducible refine bsize ?_ | (dsimp only; refine Nat.le_trans ?_ (Nat.le_add_right _ _)) | with_reducible refine Nat.le_trans ?_ (Nat.le_add_right _ _) | (with_reducible refine bstep ?_ (by assumption)))); done))) (first | (go_at_call 63; refine (HT.out _).mono ?_; rintro e w3 ⟨rfl, hb3⟩; (try have fr := HasRes.later (by first | with_reducible assumption | with_reducible exact HasRes.drew (by with_reducible assumption) | exact HasRes.newd _ _ _ _ | exact HasRes.new _ _ _ _ | exact HasRes.drew (HasRes.newd _ _ _ _) | exact HasRes.drew (HasRes.new _ _ _ _)) hb3); (try (have fr2 := fr; obtain ⟨rx, ry, y1, y2, y3, y4, y5⟩ := fr2)); (have f0 := bstep (by first | with_reducible assumption | ((repeat (first | with_reducible exact Below.refl _ _ | with_reducible assumption | with_reducible refine balloc ?_ _ | with_reducible refine bdrew ?_ | with_reducible refine below_drewN ?_ _ | with_reducible refine bset ?_ ?_ _ | with_reducible exact Nat.le_refl _ | with_reducible refine bsize ?_ | (dsimp only; refine Nat.le_trans ?_ (Nat.le_add_right _ _)) | with_reducible refine Nat.le_trans ?_ (Nat.le_add_right _ _) | (with_reducible refine bstep ?_ (by assumption)))); done) : Below w1.heap.size w1 _) hb3); (have f1 := hS.out _ f0); go_split_ands) | (go_at_call 69; refine (HR.out _).mono ?_; rintro e w3 ⟨rfl, hb3⟩; (try have fr := HasRes.later (by first | with_reducible assumption | with_reducible exact HasRes.drew (by with_reducible assumption) | exact HasRes.newd _ _ _ _ | exact HasRes.new _ _ _ _ | exact HasRes.drew (HasRes.newd _ _ _ _) | exact HasRes.drew (HasRes.new _ _ _ _)) hb3); (try (have fr2 := fr; obtain ⟨rx, ry, y1, y2, y3, y4, y5⟩ := fr2)); (have f0 := bstep (by first | with_reducible assumption | ((repeat (first | with_reducible exact Below.refl _ _ | with_reducible assumption | with_reducible refine balloc ?_ _ | with_reducible refine bdrew ?_ | with_reducible refine below_drewN ?_ _ | with_reducible refine bset ?_ ?_ _ | with_reducible exact Nat.le_refl _ | with_reducible refine bsize ?_ | (dsimp only; refine Nat.le_trans ?_ (Nat.le_add_right _ _)) | with_reducible refine Nat.le_trans ?_ (Nat.le_add_right _ _) | (with_reducible refine bstep ?_ (by assumption)))); done) : Below w1.heap.size w1 _) hb3); (have f1 := hS.out _ f0); go_split_ands) | (go_at_call 79; refine (HO.out _).mono ?_; rintro e w3 ⟨rfl, hb3⟩; (try have fr := HasRes.later (by first | with_reducible assumption | with_reducible exact HasRes.drew (by with_reducible assumption) | exact HasRes.newd _ _ _ _ | exact HasRes.new _ _ _ _ | exact HasRes.drew (HasRes.newd _ _ _ _) | exact HasRes.drew (HasRes.new _ _ _ _)) hb3); (try (have fr2 := fr; obtain ⟨rx, ry, y1, y2, y3, y4, y5⟩ := fr2)); (have f0 := bstep (by first | with_reducible assumption | ((repeat (first | with_reducible exact Below.refl _ _ | with_reducible assumption | with_reducible refine balloc ?_ _ | with_reducible refine bdrew ?_ | with_reducible refine below_drewN ?_ _ | with_reducible refine bset ?_ ?_ _ | with_reducible exact Nat.le_refl _ | with_reducible refine bsize ?_ | (dsimp only; refine Nat.le_trans ?_ (Nat.le_add_right _ _)) | with_reducible refine Nat.le_trans ?_ (Nat.le_add_right _ _) | (with_reducible refine bstep ?_ (by assumption)))); done) : Below w1.heap.size w1 _) hb3); (have f1 := hS.out _ f0); go_split_ands))
        all_goals (go_wp2_with fail; go_meet)
        all_goals refine ⟨_, rfl, ?_, ?_, ?_, ?_⟩
        all_goals first | ((repeat (first | with_reducible exact Below.refl _ _ | with_reducible assumption | with_reducible refine balloc ?_ _ | with_reducible refine bdrew ?_ | with_reducible refine below_drewN ?_ _ | with_reducible refine bset ?_ ?_ _ | with_reducible exact Nat.le_refl _ | with_reducible refine bsize ?_ | (dsimp only; refine Nat.le_trans ?_ (Nat.le_add_right _ _)) | with_reducible refine Nat.le_trans ?_ (Nat.le_add_right _ _) | (with_reducible refine bstep ?_ (by assumption)))); done) | (simp [go_sem, y1, y2, y3, y4, y5]; done) | (simp [go_sem]; done) | (simp; omega)
      case rest =>
        obtain ⟨gb, rfl, d0, d1, dz, hf⟩ := hcut
        replace c1 := keepa hf (by omega) c1
        replace c2 := keepa hf (by omega) c2
        replace c3 := keepa hf (by omega) c3
        replace c4 := keepa hf (by omega) c4
        replace c5 := keepa hf (by omega) c5
        replace c6 := keepa hf (by omega) c6
        replace c7 := keepa hf (by omega) c7
        replace c8 := keepa hf (by omega) c8
        replace hr0 := hr0.later hf
        replace hbw := bstep hbw hf
        replace hs0 := Nat.lt_of_lt_of_le hs0 hf.size
        clear hf
        obtain ⟨rx, ry, z1, z2, z3, z4, z5⟩ := hr0
        go_wp2
        refine bodyPost_ret (v := .tuple #[.agg #[.int .i64 0, .int .i64 0], .bool false]) (by simp only [results, Try.results81]; go_simp) rfl ⟨rfl, ?_⟩
        (repeat (first | with_reducible exact Below.refl _ _ | with_reducible assumption | with_reducible refine balloc ?_ _ | with_reducible refine bdrew ?_ | with_reducible refine below_drewN ?_ _ | with_reducible refine bset ?_ ?_ _ | with_reducible exact Nat.le_refl _ | with_reducible refine bsize ?_ | (dsimp only; refine Nat.le_trans ?_ (Nat.le_add_right _ _)) | with_reducible refine Nat.le_trans ?_ (Nat.le_add_right _ _) | (with_reducible refine bstep ?_ (by assumption))))
    by_cases hfar : 1000 * s < r
    · have hz := os_far L E n d p q r s hE hd hq hs hp hn2 hdec hfar
      obtain ⟨z1, z2, z3⟩ := low_neg _ (d * q * s) hz
      rw [z1, z2, z3]
      have ht2 := trp_bd (L * thD n d q) (thN L E n d p q)
      have HT2 := Lib.hid (fun W => ctrips_spec L E (thN L E n d p q) (thD n d q) hL hL2 htd (by have := (mul_le2 (rdD n d) q 12 1000000 (by have := (rd_bd n d hd).1; omega) (by have := (rd_bd n d hd).2.1; omega) (by omega) hq2); unfold thD; omega) W)
      have HR2 := Lib.hid (fun W => rate_spec L E (trp (L * thD n d q) (thN L E n d p q)) (by omega) (by omega) hE hE2 W)
      clear z1 z2 z3 hz hth hdec hsgE
      generalize ((2 * (trp (L * thD n d q) (thN L E n d p q) : Int) - 1) * E) = r2 at *
      generalize trp (L * thD n d q) (thN L E n d p q) = t2 at *
      generalize thN L E n d p q = tn at *
      generalize thD n d q = td at *
      generalize ((2 * (trp (L * d) n : Int) - 1) * E) = r1 at *
      generalize trp (L * d) n = t1 at *
      go_enter Try.func81, Try.ntmps81
      go_upto_region 1 with fail
      change Code.wp _ _ _ _ (((((w.alloc (.cells #[.int .i64 L, .int .i64 E] 25)).alloc (.cells #[.int .i64 n, .int .i64 d] 32)).alloc (.cells #[.int .i64 p, .int .i64 q] 32)).alloc (.cells #[.int .i64 r, .int .i64 s] 32)).alloc (.cells #[.int .i64 0, .int .i64 0] 32))
      generalize hV : (((((w.alloc (.cells #[.int .i64 L, .int .i64 E] 25)).alloc (.cells #[.int .i64 n, .int .i64 d] 32)).alloc (.cells #[.int .i64 p, .int .i64 q] 32)).alloc (.cells #[.int .i64 r, .int .i64 s] 32)).alloc (.cells #[.int .i64 0, .int .i64 0] 32)) = V
      have c1 : V.cell? ⟨w.heap.size, 0, none⟩ = some (.int .i64 L) := by subst hV; simp [go_sem]
      have c2 : V.cell? ⟨w.heap.size, 1, none⟩ = some (.int .i64 E) := by subst hV; simp [go_sem]
      have c3 : V.cell? ⟨w.heap.size + 1, 0, none⟩ = some (.int .i64 n) := by subst hV; simp [go_sem]
      have c4 : V.cell? ⟨w.heap.size + 1, 1, none⟩ = some (.int .i64 d) := by subst hV; simp [go_sem]
      have c5 : V.cell? ⟨w.heap.size + 1 + 1, 0, none⟩ = some (.int .i64 p) := by subst hV; simp [go_sem]
      have c6 : V.cell? ⟨w.heap.size + 1 + 1, 1, none⟩ = some (.int .i64 q) := by subst hV; simp [go_sem]
      have c7 : V.cell? ⟨w.heap.size + 1 + 1 + 1, 0, none⟩ = some (.int .i64 r) := by subst hV; simp [go_sem]
      have c8 : V.cell? ⟨w.heap.size + 1 + 1 + 1, 1, none⟩ = some (.int .i64 s) := by subst hV; simp [go_sem]
      have hr0 : HasRes (w.heap.size + 1 + 1 + 1 + 1) V := ⟨.int .i64 0, .int .i64 0, by subst hV; simp [go_sem], by subst hV; simp [go_sem], by subst hV; simp [go_sem], by subst hV; simp [go_sem], by subst hV; simp⟩
      have hs0 : w.heap.size + 1 + 1 + 1 + 1 < V.heap.size := by subst hV; simp
      have hbw : Below w.heap.size w V := by subst hV; (repeat (first | with_reducible exact Below.refl _ _ | with_reducible assumption | with_reducible refine balloc ?_ _ | with_reducible refine bdrew ?_ | with_reducible refine below_drewN ?_ _ | with_reducible refine bset ?_ ?_ _ | with_reducible exact Nat.le_refl _ | with_reducible refine bsize ?_ | (dsimp only; refine Nat.le_trans ?_ (Nat.le_add_right _ _)) | with_reducible refine Nat.le_trans ?_ (Nat.le_add_right _ _) | (with_reducible refine bstep ?_ (by assumption))))
      clear hV
      go_wp2_with fail
      refine (HC.out _).mono ?_
      rintro e w1 ⟨rfl, hb1⟩
      have f0 : Below V.heap.size V w1 := bstep (by (repeat (first | with_reducible exact Below.refl _ _ | with_reducible assumption | with_reducible refine balloc ?_ _ | with_reducible refine bdrew ?_ | with_reducible refine below_drewN ?_ _ | with_reducible refine bset ?_ ?_ _ | with_reducible exact Nat.le_refl _ | with_reducible refine bsize ?_ | (dsimp only; refine Nat.le_trans ?_ (Nat.le_add_right _ _)) | with_reducible refine Nat.le_trans ?_ (Nat.le_add_right _ _) | (with_reducible refine bstep ?_ (by assumption))))) hb1
      replace c1 := keepa f0 (by omega) c1
      replace c2 := keepa f0 (by omega) c2
      replace c3 := keepa f0 (by omega) c3
      replace c4 := keepa f0 (by omega) c4
      replace c5 := keepa f0 (by omega) c5
      replace c6 := keepa f0 (by omega) c6
      replace c7 := keepa f0 (by omega) c7
      replace c8 := keepa f0 (by omega) c8
      replace hr0 := hr0.later f0
      replace hbw := bstep hbw f0
      replace hs0 := Nat.lt_of_lt_of_le hs0 f0.size
      clear f0 hb1
      go_upto_region 3 with fail
      go_cut [10] (fun s10 wx => ∃ gb : Nat, s10 = .pointer (some ⟨gb, 0, none⟩) ∧ wx.cell? ⟨gb, 0, none⟩ = some (.int .i64 tn) ∧ wx.cell? ⟨gb, 1, none⟩ = some (.int .i64 td) ∧ gb < wx.heap.size ∧ Below w1.heap.size w1 wx)
      case first =>
        have hS := Lib.hid (fun (W : World) (h : Below w1.heap.size w1 W) => (⟨h, keepa h (by omega) c1, keepa h (by omega) c2, keepa h (by omega) c3, keepa h (by omega) c4, keepa h (by omega) c5, keepa h (by omega) c6⟩ : Below w1.heap.size w1 W ∧ W.cell? ⟨w.heap.size, 0, none⟩ = some (.int .i64 L) ∧ W.cell? ⟨w.heap.size, 1, none⟩ = some (.int .i64 E) ∧ W.cell? ⟨w.heap.size + 1, 0, none⟩ = some (.int .i64 n) ∧ W.cell? ⟨w.heap.size + 1, 1, none⟩ = some (.int .i64 d) ∧ W.cell? ⟨w.heap.size + 1 + 1, 0, none⟩ = some (.int .i64 p) ∧ W.cell? ⟨w.heap.size + 1 + 1, 1, none⟩ = some (.int .i64 q)))
        go_region_held3 (fun W => Below w1.heap.size w1 W ∧ W.cell? ⟨w.heap.size, 0, none⟩ = some (.int .i64 L) ∧ W.cell? ⟨w.heap.size, 1, none⟩ = some (.int .i64 E) ∧ W.cell? ⟨w.heap.size + 1, 0, none⟩ = some (.int .i64 n) ∧ W.cell? ⟨w.heap.size + 1, 1, none⟩ = some (.int .i64 d) ∧ W.cell? ⟨w.heap.size + 1 + 1, 0, none⟩ = some (.int .i64 p) ∧ W.cell? ⟨w.heap.size + 1 + 1, 1, none⟩ = some (.int .i64 q)) ((refine hS.out _ ?_; first | with_reducible assumption | ((repeat (first | with_reducible exact Below.refl _ _ | with_reducible assumption | with_reducible refine balloc ?_ _ | with_reducible refine bdrew ?_ | with_reducible refine below_drewN ?_ _ | with_reducible refine bset ?_ ?_ _ | with_reducible exact Nat.le_refl _ | with_reducible refine bsize ?_ | (dsimp only; refine Nat.le_trans ?_ (Nat.le_add_right _ _)) | with_reducible refine Nat.le_trans ?_ (Nat.le_add_right _ _) | (with_reducible refine bstep ?_ (by assumption)))); done))) (first | (go_at_call 63; refine (HT.out _).mono ?_; rintro e w3 ⟨rfl, hb3⟩; (try have fr := HasRes.later (by first | with_reducible assumption | with_reducible exact HasRes.drew (by with_reducible assumption) | exact HasRes.newd _ _ _ _ | exact HasRes.new _ _ _ _ | exact HasRes.drew (HasRes.newd _ _ _ _) | exact HasRes.drew (HasRes.new _ _ _ _)) hb3); (try (have fr2 := fr; obtain ⟨rx, ry, y1, y2, y3, y4, y5⟩ := fr2)); (have f0 := bstep (by first | with_reducible assumption | ((repeat (first | with_reducible exact Below.refl _ _ | with_reducible assumption | with_reducible refine balloc ?_ _ | with_reducible refine bdrew ?_ | with_reducible refine below_drewN ?_ _ | with_reducible refine bset ?_ ?_ _ | with_reducible exact Nat.le_refl _ | with_reducible refine bsize ?_ | (dsimp only; refine Nat.le_trans ?_ (Nat.le_add_right _ _)) | with_reducible refine Nat.le_trans ?_ (Nat.le_add_right _ _) | (with_reducible refine bstep ?_ (by assumption)))); done) : Below w1.heap.size w1 _) hb3); (have f1 := hS.out _ f0); go_split_ands) | (go_at_call 69; refine (HR.out _).mono ?_; rintro e w3 ⟨rfl, hb3⟩; (try have fr := HasRes.later (by first | with_reducible assumption | with_reducible exact HasRes.drew (by with_reducible assumption) | exact HasRes.newd _ _ _ _ | exact HasRes.new _ _ _ _ | exact HasRes.drew (HasRes.newd _ _ _ _) | exact HasRes.drew (HasRes.new _ _ _ _)) hb3); (try (have fr2 := fr; obtain ⟨rx, ry, y1, y2, y3, y4, y5⟩ := fr2)); (have f0 := bstep (by first | with_reducible assumption | ((repeat (first | with_reducible exact Below.refl _ _ | with_reducible assumption | with_reducible refine balloc ?_ _ | with_reducible refine bdrew ?_ | with_reducible refine below_drewN ?_ _ | with_reducible refine bset ?_ ?_ _ | with_reducible exact Nat.le_refl _ | with_reducible refine bsize ?_ | (dsimp only; refine Nat.le_trans ?_ (Nat.le_add_right _ _)) | with_reducible refine Nat.le_trans ?_ (Nat.le_add_right _ _) | (with_reducible refine bstep ?_ (by assumption)))); done) : Below w1.heap.size w1 _) hb3); (have f1 := hS.out _ f0); go_split_ands) | (go_at_call 79; refine (HO.out _).mono ?_; rintro e w3 ⟨rfl, hb3⟩; (try have fr := HasRes.later (by first | with_reducible assumption | with_reducible exact HasRes.drew (by with_reducible assumption) | exact HasRes.newd _ _ _ _ | exact HasRes.new _ _ _ _ | exact HasRes.drew (HasRes.newd _ _ _ _) | exact HasRes.drew (HasRes.new _ _ _ _)) hb3); (try (have fr2 := fr; obtain ⟨rx, ry, y1, y2, y3, y4, y5⟩ := fr2)); (have f0 := bstep (by first | with_reducible assumption | ((repeat (first | with_reducible exact Below.refl _ _ | with_reducible assumption | with_reducible refine balloc ?_ _ | with_reducible refine bdrew ?_ | with_reducible refine below_drewN ?_ _ | with_reducible refine bset ?_ ?_ _ | with_reducible exact Nat.le_refl _ | with_reducible refine bsize ?_ | (dsimp only; refine Nat.le_trans ?_ (Nat.le_add_right _ _)) | with_reducible refine Nat.le_trans ?_ (Nat.le_add_right _ _) | (with_reducible refine bstep ?_ (by assumption)))); done) : Below w1.heap.size w1 _) hb3); (have f1 := hS.out _ f0); go_split_ands))
        all_goals (go_wp2_with fail; go_meet)
        all_goals refine ⟨_, rfl, ?_, ?_, ?_, ?_⟩
        all_goals first | ((repeat (first | with_reducible exact Below.refl _ _ | with_reducible assumption | with_reducible refine balloc ?_ _ | with_reducible refine bdrew ?_ | with_reducible refine below_drewN ?_ _ | with_reducible refine bset ?_ ?_ _ | with_reducible exact Nat.le_refl _ | with_reducible refine bsize ?_ | (dsimp only; refine Nat.le_trans ?_ (Nat.le_add_right _ _)) | with_reducible refine Nat.le_trans ?_ (Nat.le_add_right _ _) | (with_reducible refine bstep ?_ (by assumption)))); done) | (simp [go_sem, y1, y2, y3, y4, y5]; done) | (simp [go_sem]; done) | (simp; omega)
      case rest =>
        obtain ⟨gb, rfl, d0, d1, dz, hf⟩ := hcut
        replace c1 := keepa hf (by omega) c1
        replace c2 := keepa hf (by omega) c2
        replace c3 := keepa hf (by omega) c3
        replace c4 := keepa hf (by omega) c4
        replace c5 := keepa hf (by omega) c5
        replace c6 := keepa hf (by omega) c6
        replace c7 := keepa hf (by omega) c7
        replace c8 := keepa hf (by omega) c8
        replace hr0 := hr0.later hf
        replace hbw := bstep hbw hf
        replace hs0 := Nat.lt_of_lt_of_le hs0 hf.size
        clear hf
        go_upto_region 6 with fail
        go_cut [11] (fun s11 wx => s11 = .int .i64 r2 ∧ Below wc.heap.size wc wx)
        case first =>
          have hS := Lib.hid (fun (W : World) (h : Below wc.heap.size wc W) => (⟨h, keepa h (by omega) c1, keepa h (by omega) c2, keepa h dz d0, keepa h dz d1⟩ : Below wc.heap.size wc W ∧ W.cell? ⟨w.heap.size, 0, none⟩ = some (.int .i64 L) ∧ W.cell? ⟨w.heap.size, 1, none⟩ = some (.int .i64 E) ∧ W.cell? ⟨gb, 0, none⟩ = some (.int .i64 tn) ∧ W.cell? ⟨gb, 1, none⟩ = some (.int .i64 td)))
          go_region_held3 (fun W => Below wc.heap.size wc W ∧ W.cell? ⟨w.heap.size, 0, none⟩ = some (.int .i64 L) ∧ W.cell? ⟨w.heap.size, 1, none⟩ = some (.int .i64 E) ∧ W.cell? ⟨gb, 0, none⟩ = some (.int .i64 tn) ∧ W.cell? ⟨gb, 1, none⟩ = some (.int .i64 td)) ((refine hS.out _ ?_; first | with_reducible assumption | ((repeat (first | with_reducible exact Below.refl _ _ | with_reducible assumption | with_reducible refine balloc ?_ _ | with_reducible refine bdrew ?_ | with_reducible refine below_drewN ?_ _ | with_reducible refine bset ?_ ?_ _ | with_reducible exact Nat.le_refl _ | with_reducible refine bsize ?_ | (dsimp only; refine Nat.le_trans ?_ (Nat.le_add_right _ _)) | with_reducible refine Nat.le_trans ?_ (Nat.le_add_right _ _) | (with_reducible refine bstep ?_ (by assumption)))); done))) (first | (go_at_call 63; refine (HT2.out _).mono ?_; rintro e w3 ⟨rfl, hb3⟩; (have f0 := bstep (by first | with_reducible assumption | ((repeat (first | with_reducible exact Below.refl _ _ | with_reducible assumption | with_reducible refine balloc ?_ _ | with_reducible refine bdrew ?_ | with_reducible refine below_drewN ?_ _ | with_reducible refine bset ?_ ?_ _ | with_reducible exact Nat.le_refl _ | with_reducible refine bsize ?_ | (dsimp only; refine Nat.le_trans ?_ (Nat.le_add_right _ _)) | with_reducible refine Nat.le_trans ?_ (Nat.le_add_right _ _) | (with_reducible refine bstep ?_ (by assumption)))); done) : Below wc.heap.size wc _) hb3); (have f1 := hS.out _ f0); go_split_ands) | (go_at_call 69; refine (HR2.out _).mono ?_; rintro e w3 ⟨rfl, hb3⟩; (have f0 := bstep (by first | with_reducible assumption | ((repeat (first | with_reducible exact Below.refl _ _ | with_reducible assumption | with_reducible refine balloc ?_ _ | with_reducible refine bdrew ?_ | with_reducible refine below_drewN ?_ _ | with_reducible refine bset ?_ ?_ _ | with_reducible exact Nat.le_refl _ | with_reducible refine bsize ?_ | (dsimp only; refine Nat.le_trans ?_ (Nat.le_add_right _ _)) | with_reducible refine Nat.le_trans ?_ (Nat.le_add_right _ _) | (with_reducible refine bstep ?_ (by assumption)))); done) : Below wc.heap.size wc _) hb3); (have f1 := hS.out _ f0); go_split_ands))
          all_goals (go_wp2_with fail; go_meet)
          all_goals exact ⟨rfl, by (repeat (first | with_reducible exact Below.refl _ _ | with_reducible assumption | with_reducible refine balloc ?_ _ | with_reducible refine bdrew ?_ | with_reducible refine below_drewN ?_ _ | with_reducible refine bset ?_ ?_ _ | with_reducible exact Nat.le_refl _ | with_reducible refine bsize ?_ | (dsimp only; refine Nat.le_trans ?_ (Nat.le_add_right _ _)) | with_reducible refine Nat.le_trans ?_ (Nat.le_add_right _ _) | (with_reducible refine bstep ?_ (by assumption))))⟩
        case rest =>
          obtain ⟨rfl, hf⟩ := hcut
          replace c1 := keepa hf (by omega) c1
          replace c2 := keepa hf (by omega) c2
          replace c3 := keepa hf (by omega) c3
          replace c4 := keepa hf (by omega) c4
          replace c5 := keepa hf (by omega) c5
          replace c6 := keepa hf (by omega) c6
          replace c7 := keepa hf (by omega) c7
          replace c8 := keepa hf (by omega) c8
          replace hr0 := hr0.later hf
          replace hbw := bstep hbw hf
          replace hs0 := Nat.lt_of_lt_of_le hs0 hf.size
          replace d0 := keepa hf dz d0
          replace d1 := keepa hf dz d1
          replace dz := Nat.lt_of_lt_of_le dz hf.size
          clear hf
          obtain ⟨rx, ry, z1, z2, z3, z4, z5⟩ := hr0
          go_wp2
          refine bodyPost_ret (v := .tuple #[.agg #[.int .i64 0, .int .i64 0], .bool false]) (by simp only [results, Try.results81]; go_simp) rfl ⟨rfl, ?_⟩
          (repeat (first | with_reducible exact Below.refl _ _ | with_reducible assumption | with_reducible refine balloc ?_ _ | with_reducible refine bdrew ?_ | with_reducible refine below_drewN ?_ _ | with_reducible refine bset ?_ ?_ _ | with_reducible exact Nat.le_refl _ | with_reducible refine bsize ?_ | (dsimp only; refine Nat.le_trans ?_ (Nat.le_add_right _ _)) | with_reducible refine Nat.le_trans ?_ (Nat.le_add_right _ _) | (with_reducible refine bstep ?_ (by assumption))))
    have ht2b := trp_bd (L * thD n d q) (thN L E n d p q)
    have ht2 : trp (L * thD n d q) (thN L E n d p q) ≤ 6 := by
      rw [th_trp L E n d p q s hd hq hs]
      have B := os_b L E n d p q r s hL hL2 hE hE2 hn hd hd2 hn6 hp hp2 hq hq2 hr hr2 hs hs2
      exact (trp_is _ _ (by have := B.x6; have := B.a1; omega)).b
    obtain ⟨hbd, tn2, td1, td2⟩ := os_bd L E n d p q r s (2 * (trp (L * thD n d q) (thN L E n d p q) : Int) - 1) hE hE2 hn hn2 hd hd2 hp hp2 hq hq2 hr hr2 hs hs2 (by omega) (by omega) (by omega)
    have HT2 := Lib.hid (fun W => ctrips_spec L E (thN L E n d p q) (thD n d q) hL hL2 htd (by omega) W)
    have HR2 := Lib.hid (fun W => rate_spec L E (trp (L * thD n d q) (thN L E n d p q)) (by omega) (by omega) hE hE2 W)
    have HO2 := Lib.hid (fun W => once_spec _ _ _ _ _ _ _ hbd W)
    have hqt := Int.mul_pos (show 0 < q by omega) (show 0 < thD n d q by omega)
    have ho := once_low (thN L E n d p q * q + (2 * (trp (L * thD n d q) (thN L E n d p q) : Int) - 1) * E * p * thD n d q) (q * thD n d q) s ((2 * (trp (L * thD n d q) (thN L E n d p q) : Int) - 1) * E * r) (by omega) hs
    have hl := os_low L E n d p q r s hd hq hs
    obtain ⟨-, -, -, -, -, b3, b4⟩ := hbd
    obtain ⟨g1, -, -, -, -⟩ := rd_bd (thN L E n d p q * q + (2 * (trp (L * thD n d q) (thN L E n d p q) : Int) - 1) * E * p * thD n d q) (q * thD n d q) (by omega)
    have g2 := Int.mul_pos (show 0 < rdD (thN L E n d p q * q + (2 * (trp (L * thD n d q) (thN L E n d p q) : Int) - 1) * E * p * thD n d q) (q * thD n d q) by omega) (show 0 < s by omega)
    have HM := Lib.hid (fun W => made_spec _ _ (show 1 ≤ rdD (thN L E n d p q * q + (2 * (trp (L * thD n d q) (thN L E n d p q) : Int) - 1) * E * p * thD n d q) (q * thD n d q) * s by omega) b4.2 b3.2 W)
    rw [ho.1, ho.2.1, ho.2.2, hl.1, hl.2.1, hl.2.2] at HM
    clear ho hl b3 b4 g1 g2 hqt hth hdec hsgE ht2
    generalize osB L E n d p q r s = X at *
    generalize d * q * s = M at *
    generalize rdN (thN L E n d p q * q + (2 * (trp (L * thD n d q) (thN L E n d p q) : Int) - 1) * E * p * thD n d q) (q * thD n d q) * s - (2 * (trp (L * thD n d q) (thN L E n d p q) : Int) - 1) * E * r * rdD (thN L E n d p q * q + (2 * (trp (L * thD n d q) (thN L E n d p q) : Int) - 1) * E * p * thD n d q) (q * thD n d q) = Y at *
    generalize rdD (thN L E n d p q * q + (2 * (trp (L * thD n d q) (thN L E n d p q) : Int) - 1) * E * p * thD n d q) (q * thD n d q) * s = Z at *
    generalize ((2 * (trp (L * thD n d q) (thN L E n d p q) : Int) - 1) * E) = r2 at *
    generalize trp (L * thD n d q) (thN L E n d p q) = t2 at *
    generalize thN L E n d p q = tn at *
    generalize thD n d q = td at *
    generalize ((2 * (trp (L * d) n : Int) - 1) * E) = r1 at *
    generalize trp (L * d) n = t1 at *
    go_enter Try.func81, Try.ntmps81
    go_upto_region 1 with fail
    change Code.wp _ _ _ _ (((((w.alloc (.cells #[.int .i64 L, .int .i64 E] 25)).alloc (.cells #[.int .i64 n, .int .i64 d] 32)).alloc (.cells #[.int .i64 p, .int .i64 q] 32)).alloc (.cells #[.int .i64 r, .int .i64 s] 32)).alloc (.cells #[.int .i64 0, .int .i64 0] 32))
    generalize hV : (((((w.alloc (.cells #[.int .i64 L, .int .i64 E] 25)).alloc (.cells #[.int .i64 n, .int .i64 d] 32)).alloc (.cells #[.int .i64 p, .int .i64 q] 32)).alloc (.cells #[.int .i64 r, .int .i64 s] 32)).alloc (.cells #[.int .i64 0, .int .i64 0] 32)) = V
    have c1 : V.cell? ⟨w.heap.size, 0, none⟩ = some (.int .i64 L) := by subst hV; simp [go_sem]
    have c2 : V.cell? ⟨w.heap.size, 1, none⟩ = some (.int .i64 E) := by subst hV; simp [go_sem]
    have c3 : V.cell? ⟨w.heap.size + 1, 0, none⟩ = some (.int .i64 n) := by subst hV; simp [go_sem]
    have c4 : V.cell? ⟨w.heap.size + 1, 1, none⟩ = some (.int .i64 d) := by subst hV; simp [go_sem]
    have c5 : V.cell? ⟨w.heap.size + 1 + 1, 0, none⟩ = some (.int .i64 p) := by subst hV; simp [go_sem]
    have c6 : V.cell? ⟨w.heap.size + 1 + 1, 1, none⟩ = some (.int .i64 q) := by subst hV; simp [go_sem]
    have c7 : V.cell? ⟨w.heap.size + 1 + 1 + 1, 0, none⟩ = some (.int .i64 r) := by subst hV; simp [go_sem]
    have c8 : V.cell? ⟨w.heap.size + 1 + 1 + 1, 1, none⟩ = some (.int .i64 s) := by subst hV; simp [go_sem]
    have hr0 : HasRes (w.heap.size + 1 + 1 + 1 + 1) V := ⟨.int .i64 0, .int .i64 0, by subst hV; simp [go_sem], by subst hV; simp [go_sem], by subst hV; simp [go_sem], by subst hV; simp [go_sem], by subst hV; simp⟩
    have hs0 : w.heap.size + 1 + 1 + 1 + 1 < V.heap.size := by subst hV; simp
    have hbw : Below w.heap.size w V := by subst hV; (repeat (first | with_reducible exact Below.refl _ _ | with_reducible assumption | with_reducible refine balloc ?_ _ | with_reducible refine bdrew ?_ | with_reducible refine below_drewN ?_ _ | with_reducible refine bset ?_ ?_ _ | with_reducible exact Nat.le_refl _ | with_reducible refine bsize ?_ | (dsimp only; refine Nat.le_trans ?_ (Nat.le_add_right _ _)) | with_reducible refine Nat.le_trans ?_ (Nat.le_add_right _ _) | (with_reducible refine bstep ?_ (by assumption))))
    clear hV
    go_wp2_with fail
    refine (HC.out _).mono ?_
    rintro e w1 ⟨rfl, hb1⟩
    have f0 : Below V.heap.size V w1 := bstep (by (repeat (first | with_reducible exact Below.refl _ _ | with_reducible assumption | with_reducible refine balloc ?_ _ | with_reducible refine bdrew ?_ | with_reducible refine below_drewN ?_ _ | with_reducible refine bset ?_ ?_ _ | with_reducible exact Nat.le_refl _ | with_reducible refine bsize ?_ | (dsimp only; refine Nat.le_trans ?_ (Nat.le_add_right _ _)) | with_reducible refine Nat.le_trans ?_ (Nat.le_add_right _ _) | (with_reducible refine bstep ?_ (by assumption))))) hb1
    replace c1 := keepa f0 (by omega) c1
    replace c2 := keepa f0 (by omega) c2
    replace c3 := keepa f0 (by omega) c3
    replace c4 := keepa f0 (by omega) c4
    replace c5 := keepa f0 (by omega) c5
    replace c6 := keepa f0 (by omega) c6
    replace c7 := keepa f0 (by omega) c7
    replace c8 := keepa f0 (by omega) c8
    replace hr0 := hr0.later f0
    replace hbw := bstep hbw f0
    replace hs0 := Nat.lt_of_lt_of_le hs0 f0.size
    clear f0 hb1
    go_upto_region 3 with fail
    go_cut [10] (fun s10 wx => ∃ gb : Nat, s10 = .pointer (some ⟨gb, 0, none⟩) ∧ wx.cell? ⟨gb, 0, none⟩ = some (.int .i64 tn) ∧ wx.cell? ⟨gb, 1, none⟩ = some (.int .i64 td) ∧ gb < wx.heap.size ∧ Below w1.heap.size w1 wx)
    case first =>
      have hS := Lib.hid (fun (W : World) (h : Below w1.heap.size w1 W) => (⟨h, keepa h (by omega) c1, keepa h (by omega) c2, keepa h (by omega) c3, keepa h (by omega) c4, keepa h (by omega) c5, keepa h (by omega) c6⟩ : Below w1.heap.size w1 W ∧ W.cell? ⟨w.heap.size, 0, none⟩ = some (.int .i64 L) ∧ W.cell? ⟨w.heap.size, 1, none⟩ = some (.int .i64 E) ∧ W.cell? ⟨w.heap.size + 1, 0, none⟩ = some (.int .i64 n) ∧ W.cell? ⟨w.heap.size + 1, 1, none⟩ = some (.int .i64 d) ∧ W.cell? ⟨w.heap.size + 1 + 1, 0, none⟩ = some (.int .i64 p) ∧ W.cell? ⟨w.heap.size + 1 + 1, 1, none⟩ = some (.int .i64 q)))
      go_region_held3 (fun W => Below w1.heap.size w1 W ∧ W.cell? ⟨w.heap.size, 0, none⟩ = some (.int .i64 L) ∧ W.cell? ⟨w.heap.size, 1, none⟩ = some (.int .i64 E) ∧ W.cell? ⟨w.heap.size + 1, 0, none⟩ = some (.int .i64 n) ∧ W.cell? ⟨w.heap.size + 1, 1, none⟩ = some (.int .i64 d) ∧ W.cell? ⟨w.heap.size + 1 + 1, 0, none⟩ = some (.int .i64 p) ∧ W.cell? ⟨w.heap.size + 1 + 1, 1, none⟩ = some (.int .i64 q)) ((refine hS.out _ ?_; first | with_reducible assumption | ((repeat (first | with_reducible exact Below.refl _ _ | with_reducible assumption | with_reducible refine balloc ?_ _ | with_reducible refine bdrew ?_ | with_reducible refine below_drewN ?_ _ | with_reducible refine bset ?_ ?_ _ | with_reducible exact Nat.le_refl _ | with_reducible refine bsize ?_ | (dsimp only; refine Nat.le_trans ?_ (Nat.le_add_right _ _)) | with_reducible refine Nat.le_trans ?_ (Nat.le_add_right _ _) | (with_reducible refine bstep ?_ (by assumption)))); done))) (first | (go_at_call 63; refine (HT.out _).mono ?_; rintro e w3 ⟨rfl, hb3⟩; (try have fr := HasRes.later (by first | with_reducible assumption | with_reducible exact HasRes.drew (by with_reducible assumption) | exact HasRes.newd _ _ _ _ | exact HasRes.new _ _ _ _ | exact HasRes.drew (HasRes.newd _ _ _ _) | exact HasRes.drew (HasRes.new _ _ _ _)) hb3); (try (have fr2 := fr; obtain ⟨rx, ry, y1, y2, y3, y4, y5⟩ := fr2)); (have f0 := bstep (by first | with_reducible assumption | ((repeat (first | with_reducible exact Below.refl _ _ | with_reducible assumption | with_reducible refine balloc ?_ _ | with_reducible refine bdrew ?_ | with_reducible refine below_drewN ?_ _ | with_reducible refine bset ?_ ?_ _ | with_reducible exact Nat.le_refl _ | with_reducible refine bsize ?_ | (dsimp only; refine Nat.le_trans ?_ (Nat.le_add_right _ _)) | with_reducible refine Nat.le_trans ?_ (Nat.le_add_right _ _) | (with_reducible refine bstep ?_ (by assumption)))); done) : Below w1.heap.size w1 _) hb3); (have f1 := hS.out _ f0); go_split_ands) | (go_at_call 69; refine (HR.out _).mono ?_; rintro e w3 ⟨rfl, hb3⟩; (try have fr := HasRes.later (by first | with_reducible assumption | with_reducible exact HasRes.drew (by with_reducible assumption) | exact HasRes.newd _ _ _ _ | exact HasRes.new _ _ _ _ | exact HasRes.drew (HasRes.newd _ _ _ _) | exact HasRes.drew (HasRes.new _ _ _ _)) hb3); (try (have fr2 := fr; obtain ⟨rx, ry, y1, y2, y3, y4, y5⟩ := fr2)); (have f0 := bstep (by first | with_reducible assumption | ((repeat (first | with_reducible exact Below.refl _ _ | with_reducible assumption | with_reducible refine balloc ?_ _ | with_reducible refine bdrew ?_ | with_reducible refine below_drewN ?_ _ | with_reducible refine bset ?_ ?_ _ | with_reducible exact Nat.le_refl _ | with_reducible refine bsize ?_ | (dsimp only; refine Nat.le_trans ?_ (Nat.le_add_right _ _)) | with_reducible refine Nat.le_trans ?_ (Nat.le_add_right _ _) | (with_reducible refine bstep ?_ (by assumption)))); done) : Below w1.heap.size w1 _) hb3); (have f1 := hS.out _ f0); go_split_ands) | (go_at_call 79; refine (HO.out _).mono ?_; rintro e w3 ⟨rfl, hb3⟩; (try have fr := HasRes.later (by first | with_reducible assumption | with_reducible exact HasRes.drew (by with_reducible assumption) | exact HasRes.newd _ _ _ _ | exact HasRes.new _ _ _ _ | exact HasRes.drew (HasRes.newd _ _ _ _) | exact HasRes.drew (HasRes.new _ _ _ _)) hb3); (try (have fr2 := fr; obtain ⟨rx, ry, y1, y2, y3, y4, y5⟩ := fr2)); (have f0 := bstep (by first | with_reducible assumption | ((repeat (first | with_reducible exact Below.refl _ _ | with_reducible assumption | with_reducible refine balloc ?_ _ | with_reducible refine bdrew ?_ | with_reducible refine below_drewN ?_ _ | with_reducible refine bset ?_ ?_ _ | with_reducible exact Nat.le_refl _ | with_reducible refine bsize ?_ | (dsimp only; refine Nat.le_trans ?_ (Nat.le_add_right _ _)) | with_reducible refine Nat.le_trans ?_ (Nat.le_add_right _ _) | (with_reducible refine bstep ?_ (by assumption)))); done) : Below w1.heap.size w1 _) hb3); (have f1 := hS.out _ f0); go_split_ands))
      all_goals (go_wp2_with fail; go_meet)
      all_goals refine ⟨_, rfl, ?_, ?_, ?_, ?_⟩
      all_goals first | ((repeat (first | with_reducible exact Below.refl _ _ | with_reducible assumption | with_reducible refine balloc ?_ _ | with_reducible refine bdrew ?_ | with_reducible refine below_drewN ?_ _ | with_reducible refine bset ?_ ?_ _ | with_reducible exact Nat.le_refl _ | with_reducible refine bsize ?_ | (dsimp only; refine Nat.le_trans ?_ (Nat.le_add_right _ _)) | with_reducible refine Nat.le_trans ?_ (Nat.le_add_right _ _) | (with_reducible refine bstep ?_ (by assumption)))); done) | (simp [go_sem, y1, y2, y3, y4, y5]; done) | (simp [go_sem]; done) | (simp; omega)
    case rest =>
      obtain ⟨gb, rfl, d0, d1, dz, hf⟩ := hcut
      replace c1 := keepa hf (by omega) c1
      replace c2 := keepa hf (by omega) c2
      replace c3 := keepa hf (by omega) c3
      replace c4 := keepa hf (by omega) c4
      replace c5 := keepa hf (by omega) c5
      replace c6 := keepa hf (by omega) c6
      replace c7 := keepa hf (by omega) c7
      replace c8 := keepa hf (by omega) c8
      replace hr0 := hr0.later hf
      replace hbw := bstep hbw hf
      replace hs0 := Nat.lt_of_lt_of_le hs0 hf.size
      clear hf
      go_upto_region 6 with fail
      go_cut [11] (fun s11 wx => s11 = .int .i64 r2 ∧ Below wc.heap.size wc wx)
      case first =>
        have hS := Lib.hid (fun (W : World) (h : Below wc.heap.size wc W) => (⟨h, keepa h (by omega) c1, keepa h (by omega) c2, keepa h dz d0, keepa h dz d1⟩ : Below wc.heap.size wc W ∧ W.cell? ⟨w.heap.size, 0, none⟩ = some (.int .i64 L) ∧ W.cell? ⟨w.heap.size, 1, none⟩ = some (.int .i64 E) ∧ W.cell? ⟨gb, 0, none⟩ = some (.int .i64 tn) ∧ W.cell? ⟨gb, 1, none⟩ = some (.int .i64 td)))
        go_region_held3 (fun W => Below wc.heap.size wc W ∧ W.cell? ⟨w.heap.size, 0, none⟩ = some (.int .i64 L) ∧ W.cell? ⟨w.heap.size, 1, none⟩ = some (.int .i64 E) ∧ W.cell? ⟨gb, 0, none⟩ = some (.int .i64 tn) ∧ W.cell? ⟨gb, 1, none⟩ = some (.int .i64 td)) ((refine hS.out _ ?_; first | with_reducible assumption | ((repeat (first | with_reducible exact Below.refl _ _ | with_reducible assumption | with_reducible refine balloc ?_ _ | with_reducible refine bdrew ?_ | with_reducible refine below_drewN ?_ _ | with_reducible refine bset ?_ ?_ _ | with_reducible exact Nat.le_refl _ | with_reducible refine bsize ?_ | (dsimp only; refine Nat.le_trans ?_ (Nat.le_add_right _ _)) | with_reducible refine Nat.le_trans ?_ (Nat.le_add_right _ _) | (with_reducible refine bstep ?_ (by assumption)))); done))) (first | (go_at_call 63; refine (HT2.out _).mono ?_; rintro e w3 ⟨rfl, hb3⟩; (have f0 := bstep (by first | with_reducible assumption | ((repeat (first | with_reducible exact Below.refl _ _ | with_reducible assumption | with_reducible refine balloc ?_ _ | with_reducible refine bdrew ?_ | with_reducible refine below_drewN ?_ _ | with_reducible refine bset ?_ ?_ _ | with_reducible exact Nat.le_refl _ | with_reducible refine bsize ?_ | (dsimp only; refine Nat.le_trans ?_ (Nat.le_add_right _ _)) | with_reducible refine Nat.le_trans ?_ (Nat.le_add_right _ _) | (with_reducible refine bstep ?_ (by assumption)))); done) : Below wc.heap.size wc _) hb3); (have f1 := hS.out _ f0); go_split_ands) | (go_at_call 69; refine (HR2.out _).mono ?_; rintro e w3 ⟨rfl, hb3⟩; (have f0 := bstep (by first | with_reducible assumption | ((repeat (first | with_reducible exact Below.refl _ _ | with_reducible assumption | with_reducible refine balloc ?_ _ | with_reducible refine bdrew ?_ | with_reducible refine below_drewN ?_ _ | with_reducible refine bset ?_ ?_ _ | with_reducible exact Nat.le_refl _ | with_reducible refine bsize ?_ | (dsimp only; refine Nat.le_trans ?_ (Nat.le_add_right _ _)) | with_reducible refine Nat.le_trans ?_ (Nat.le_add_right _ _) | (with_reducible refine bstep ?_ (by assumption)))); done) : Below wc.heap.size wc _) hb3); (have f1 := hS.out _ f0); go_split_ands))
        all_goals (go_wp2_with fail; go_meet)
        all_goals exact ⟨rfl, by (repeat (first | with_reducible exact Below.refl _ _ | with_reducible assumption | with_reducible refine balloc ?_ _ | with_reducible refine bdrew ?_ | with_reducible refine below_drewN ?_ _ | with_reducible refine bset ?_ ?_ _ | with_reducible exact Nat.le_refl _ | with_reducible refine bsize ?_ | (dsimp only; refine Nat.le_trans ?_ (Nat.le_add_right _ _)) | with_reducible refine Nat.le_trans ?_ (Nat.le_add_right _ _) | (with_reducible refine bstep ?_ (by assumption))))⟩
      case rest =>
        obtain ⟨rfl, hf⟩ := hcut
        replace c1 := keepa hf (by omega) c1
        replace c2 := keepa hf (by omega) c2
        replace c3 := keepa hf (by omega) c3
        replace c4 := keepa hf (by omega) c4
        replace c5 := keepa hf (by omega) c5
        replace c6 := keepa hf (by omega) c6
        replace c7 := keepa hf (by omega) c7
        replace c8 := keepa hf (by omega) c8
        replace hr0 := hr0.later hf
        replace hbw := bstep hbw hf
        replace hs0 := Nat.lt_of_lt_of_le hs0 hf.size
        replace d0 := keepa hf dz d0
        replace d1 := keepa hf dz d1
        replace dz := Nat.lt_of_lt_of_le dz hf.size
        clear hf
        go_wp2_with fail
        refine (HO2.out _).mono ?_
        rintro e w7 ⟨rfl, hb7⟩
        have f7 : Below wc.heap.size wc w7 := bstep (by (repeat (first | with_reducible exact Below.refl _ _ | with_reducible assumption | with_reducible refine balloc ?_ _ | with_reducible refine bdrew ?_ | with_reducible refine below_drewN ?_ _ | with_reducible refine bset ?_ ?_ _ | with_reducible exact Nat.le_refl _ | with_reducible refine bsize ?_ | (dsimp only; refine Nat.le_trans ?_ (Nat.le_add_right _ _)) | with_reducible refine Nat.le_trans ?_ (Nat.le_add_right _ _) | (with_reducible refine bstep ?_ (by assumption))))) hb7
        replace hr0 := hr0.later f7
        replace hbw := bstep hbw f7
        clear f7 hb7 c1 c2 c3 c4 c5 c6 c7 c8 d0 d1 dz hs0
        go_wp2_with fail
        refine (HM.out _).mono ?_
        rintro e w8 ⟨rfl, hb8⟩
        have f8 : Below w7.heap.size w7 w8 := bstep (by (repeat (first | with_reducible exact Below.refl _ _ | with_reducible assumption | with_reducible refine balloc ?_ _ | with_reducible refine bdrew ?_ | with_reducible refine below_drewN ?_ _ | with_reducible refine bset ?_ ?_ _ | with_reducible exact Nat.le_refl _ | with_reducible refine bsize ?_ | (dsimp only; refine Nat.le_trans ?_ (Nat.le_add_right _ _)) | with_reducible refine Nat.le_trans ?_ (Nat.le_add_right _ _) | (with_reducible refine bstep ?_ (by assumption))))) hb8
        replace hr0 := hr0.later f8
        replace hbw := bstep hbw f8
        clear f8 hb8
        obtain ⟨rx, ry, z1, z2, z3, z4, z5⟩ := hr0
        go_wp2
        refine bodyPost_ret (v := .tuple #[.agg #[.int .i64 (lowN (X) (M)), .int .i64 (lowD (X) (M))], .bool (lowB (X) (M))]) (by simp only [results, Try.results81]; go_simp) rfl ⟨rfl, ?_⟩
        (repeat (first | with_reducible exact Below.refl _ _ | with_reducible assumption | with_reducible refine balloc ?_ _ | with_reducible refine bdrew ?_ | with_reducible refine below_drewN ?_ _ | with_reducible refine bset ?_ ?_ _ | with_reducible exact Nat.le_refl _ | with_reducible refine bsize ?_ | (dsimp only; refine Nat.le_trans ?_ (Nat.le_add_right _ _)) | with_reducible refine Nat.le_trans ?_ (Nat.le_add_right _ _) | (with_reducible refine bstep ?_ (by assumption))))
  · rw [decide_eq_false hc, (two_no _ _).1, (two_no _ _).2.1, (two_no _ _).2.2]
    have hsg := sg_gt (p * s - r * q) (by omega)
    rw [hsg] at HC
    clear hsg hc
    go_enter Try.func81, Try.ntmps81
    go_upto_region 1 with fail
    change Code.wp _ _ _ _ (((((w.alloc (.cells #[.int .i64 L, .int .i64 E] 25)).alloc (.cells #[.int .i64 n, .int .i64 d] 32)).alloc (.cells #[.int .i64 p, .int .i64 q] 32)).alloc (.cells #[.int .i64 r, .int .i64 s] 32)).alloc (.cells #[.int .i64 0, .int .i64 0] 32))
    generalize hV : (((((w.alloc (.cells #[.int .i64 L, .int .i64 E] 25)).alloc (.cells #[.int .i64 n, .int .i64 d] 32)).alloc (.cells #[.int .i64 p, .int .i64 q] 32)).alloc (.cells #[.int .i64 r, .int .i64 s] 32)).alloc (.cells #[.int .i64 0, .int .i64 0] 32)) = V
    have c1 : V.cell? ⟨w.heap.size, 0, none⟩ = some (.int .i64 L) := by subst hV; simp [go_sem]
    have c2 : V.cell? ⟨w.heap.size, 1, none⟩ = some (.int .i64 E) := by subst hV; simp [go_sem]
    have c3 : V.cell? ⟨w.heap.size + 1, 0, none⟩ = some (.int .i64 n) := by subst hV; simp [go_sem]
    have c4 : V.cell? ⟨w.heap.size + 1, 1, none⟩ = some (.int .i64 d) := by subst hV; simp [go_sem]
    have c5 : V.cell? ⟨w.heap.size + 1 + 1, 0, none⟩ = some (.int .i64 p) := by subst hV; simp [go_sem]
    have c6 : V.cell? ⟨w.heap.size + 1 + 1, 1, none⟩ = some (.int .i64 q) := by subst hV; simp [go_sem]
    have c7 : V.cell? ⟨w.heap.size + 1 + 1 + 1, 0, none⟩ = some (.int .i64 r) := by subst hV; simp [go_sem]
    have c8 : V.cell? ⟨w.heap.size + 1 + 1 + 1, 1, none⟩ = some (.int .i64 s) := by subst hV; simp [go_sem]
    have hr0 : HasRes (w.heap.size + 1 + 1 + 1 + 1) V := ⟨.int .i64 0, .int .i64 0, by subst hV; simp [go_sem], by subst hV; simp [go_sem], by subst hV; simp [go_sem], by subst hV; simp [go_sem], by subst hV; simp⟩
    have hs0 : w.heap.size + 1 + 1 + 1 + 1 < V.heap.size := by subst hV; simp
    have hbw : Below w.heap.size w V := by subst hV; (repeat (first | with_reducible exact Below.refl _ _ | with_reducible assumption | with_reducible refine balloc ?_ _ | with_reducible refine bdrew ?_ | with_reducible refine below_drewN ?_ _ | with_reducible refine bset ?_ ?_ _ | with_reducible exact Nat.le_refl _ | with_reducible refine bsize ?_ | (dsimp only; refine Nat.le_trans ?_ (Nat.le_add_right _ _)) | with_reducible refine Nat.le_trans ?_ (Nat.le_add_right _ _) | (with_reducible refine bstep ?_ (by assumption))))
    clear hV
    go_wp2_with fail
    refine (HC.out _).mono ?_
    rintro e w1 ⟨rfl, hb1⟩
    have f0 : Below V.heap.size V w1 := bstep (by (repeat (first | with_reducible exact Below.refl _ _ | with_reducible assumption | with_reducible refine balloc ?_ _ | with_reducible refine bdrew ?_ | with_reducible refine below_drewN ?_ _ | with_reducible refine bset ?_ ?_ _ | with_reducible exact Nat.le_refl _ | with_reducible refine bsize ?_ | (dsimp only; refine Nat.le_trans ?_ (Nat.le_add_right _ _)) | with_reducible refine Nat.le_trans ?_ (Nat.le_add_right _ _) | (with_reducible refine bstep ?_ (by assumption))))) hb1
    replace c1 := keepa f0 (by omega) c1
    replace c2 := keepa f0 (by omega) c2
    replace c3 := keepa f0 (by omega) c3
    replace c4 := keepa f0 (by omega) c4
    replace c5 := keepa f0 (by omega) c5
    replace c6 := keepa f0 (by omega) c6
    replace c7 := keepa f0 (by omega) c7
    replace c8 := keepa f0 (by omega) c8
    replace hr0 := hr0.later f0
    replace hbw := bstep hbw f0
    replace hs0 := Nat.lt_of_lt_of_le hs0 f0.size
    clear f0 hb1
    obtain ⟨rx, ry, z1, z2, z3, z4, z5⟩ := hr0
    go_wp2
    refine bodyPost_ret (v := .tuple #[.agg #[.int .i64 0, .int .i64 0], .bool false]) (by simp only [results, Try.results81]; go_simp) rfl ⟨rfl, ?_⟩
    (repeat (first | with_reducible exact Below.refl _ _ | with_reducible assumption | with_reducible refine balloc ?_ _ | with_reducible refine bdrew ?_ | with_reducible refine below_drewN ?_ _ | with_reducible refine bset ?_ ?_ _ | with_reducible exact Nat.le_refl _ | with_reducible refine bsize ?_ | (dsimp only; refine Nat.le_trans ?_ (Nat.le_add_right _ _)) | with_reducible refine Nat.le_trans ?_ (Nat.le_add_right _ _) | (with_reducible refine bstep ?_ (by assumption))))
end Go.Proofs.Ytkignanlkakdpaa
