/- Rings: the way around, of the program. -/
import Derived.Test.YtcgchgkgmfemeaaRingB
import Derived.Deep.RegionHeld3
import Derived.Deep.DeepCutAuto
namespace Go.Proofs.Ytcgchgkgmfemeaa
open Go.ChangeShapes Go.WideShapes Go.ChangeAt Go.RowKit Go.Joins
set_option maxRecDepth 100000
set_option linter.unusedVariables false
set_option linter.unusedSimpArgs false


/-- What stands on the way around: the tank, the most that was in it, and what lacks at most. -/
structure CtV where
  t : Int
  m : Int
  k : Int
def mxI (a b : Int) : Int := if a < b then b else a
def ctStep (s : CtV) (p : StaV) : CtV := ⟨s.t + p.a - p.b, mxI s.m (s.t + p.a), mxI s.k (-(s.t + p.a - p.b))⟩
def ctF (l : List StaV) (s : CtV) : CtV := l.foldl ctStep s
def ct (l : List StaV) : CtV := ctF l ⟨0, 0, 0⟩
def ciM (l : List StaV) (k : Int) : Int := if trB l k = true then (ct (trL l k)).m else 0
def ciL (l : List StaV) (k : Int) : Int := if trB l k = true then (ct (trL l k)).k else 0
/-- What is known of it behind i stations. -/
structure CtOk (s : CtV) (i : Nat) : Prop where
  t0 : -1000 * (i : Int) ≤ s.t
  t1 : s.t ≤ 1000 * (i : Int)
  m0 : 0 ≤ s.m
  m1 : s.m ≤ 1000 * (i : Int)
  k0 : 0 ≤ s.k
  k1 : s.k ≤ 1000 * (i : Int)
theorem ctok_start : CtOk ⟨0, 0, 0⟩ 0 := ⟨by simp, by simp, by simp, by simp, by simp, by simp⟩
theorem ctok_step {s : CtV} {i : Nat} (h : CtOk s i) {p : StaV} (ha : 0 ≤ p.a ∧ p.a ≤ 1000) (hb : 0 ≤ p.b ∧ p.b ≤ 1000) : CtOk (ctStep s p) (i + 1) := by
  obtain ⟨t0, t1, m0, m1, k0, k1⟩ := h
  refine ⟨?_, ?_, ?_, ?_, ?_, ?_⟩ <;> simp only [ctStep, mxI] <;> (try split) <;> push_cast <;> omega
theorem ct_next {L : List StaV} {k : Nat} {p : StaV} {s R : CtV} (hp : L[k]? = some p) (h : ctF (L.drop k) s = R) : ctF (L.drop (k + 1)) (ctStep s p) = R := by
  have hk := (List.getElem?_eq_some_iff.1 hp).1
  have e : L.drop k = p :: L.drop (k + 1) := by
    rw [List.drop_eq_getElem_cons hk]
    rw [List.getElem?_eq_getElem hk] at hp
    injection hp with hp
    rw [hp]
  rw [e] at h
  exact h
theorem ct_end {L : List StaV} {s R : CtV} (h : ctF (L.drop L.length) s = R) : s = R := by
  rw [List.drop_length] at h
  exact h
theorem trL_mem {l : List StaV} {k : Int} {p : StaV} (h : p ∈ trL l k) : p ∈ l := by
  unfold trL at h
  split at h
  · rcases List.mem_append.1 h with h | h
    · exact List.mem_of_mem_drop h
    · exact List.mem_of_mem_take h
  · simp at h
theorem trB_rg {l : List StaV} {k : Int} (h : trB l k = true) : rgB l = true := by
  unfold trB at h
  rw [Bool.and_eq_true] at h
  exact h.1
theorem trB_in {l : List StaV} {k : Int} (h : trB l k = true) : 0 ≤ k ∧ k < l.length := by
  unfold trB inB at h
  simp at h
  omega
theorem trL_length {l : List StaV} {k : Int} (h : trB l k = true) : (trL l k).length = l.length := by
  have h2 := trB_in h
  simp only [trL, h, if_true, List.length_append, List.length_drop, List.length_take]
  omega
set_option maxHeartbeats 3200000 in
theorem circ_impl (v : Value) (l : List StaV) (k : Int) (bk : -9223372036854775808 ≤ k ∧ k ≤ 9223372036854775807) (w : World) (h : RowG 2 fSta w v l) :
    Calls Try.prog 44 #[v, .int .i64 k] w fun e w' => e = .returned (.tuple #[.agg #[.int .i64 (ciM l k), .int .i64 (ciL l k)], .bool (trB l k)]) ∧ Below w.heap.size w w' := by
  obtain ⟨a0, c0, hv0, hl1, hl2⟩ := row_shape h
  have HR := Lib.hid (fun W (hB : Below w.heap.size w W) => turn_impl v l k bk W (rowG_below h hB))
  subst hv0
  unfold ciM ciL
  cases hr : trB l k
  · rw [trL_no hr, hr] at HR
    clear h hr
    simp only [Bool.false_eq_true, if_false]
    go_enter Try.func44, Try.ntmps44
    go_wp2_with fail
    refine (HR.out _ (by (repeat (first | with_reducible exact Below.refl _ _ | with_reducible assumption | with_reducible refine balloc ?_ _ | with_reducible refine bdrew ?_ | with_reducible refine below_drewN ?_ _ | with_reducible refine bset ?_ ?_ _ | with_reducible exact Nat.le_refl _ | with_reducible refine bsize ?_ | (dsimp only; refine Nat.le_trans ?_ (Nat.le_add_right _ _)) | with_reducible refine Nat.le_trans ?_ (Nat.le_add_right _ _) | (with_reducible refine bstep ?_ (by assumption)))))).mono ?_
    rintro e w1 ⟨v1, rfl, hown, hb1⟩
    obtain ⟨aq, cq, rfl⟩ := owns_shape hown
    obtain ⟨kc1, kf1, kz1, ky1, kx1, kv1, ku1⟩ := bcell hb1
    have r1 : w1.cell? ⟨w.heap.size, 0, none⟩ = some (.int .i64 0) := (by rw [kc1 (w.heap.size) _ (by first | (simp; done) | (simp; omega))]; first | (simp; done) | (simp [go_sem]; done)); have r2 : w1.cell? ⟨w.heap.size, 1, none⟩ = some (.int .i64 0) := (by rw [kc1 (w.heap.size) _ (by first | (simp; done) | (simp; omega))]; first | (simp; done) | (simp [go_sem]; done)); have r3 : w1.frozen? ⟨w.heap.size, 0, none⟩ = false := (by rw [kf1 (w.heap.size) _ (by first | (simp; done) | (simp; omega))]; first | (simp; done) | (simp [go_sem]; done)); have r4 : w1.frozen? ⟨w.heap.size, 1, none⟩ = false := (by rw [kf1 (w.heap.size) _ (by first | (simp; done) | (simp; omega))]; first | (simp; done) | (simp [go_sem]; done)); have rz : w.heap.size < w1.heap.size := kz1 (w.heap.size) (by first | (simp; done) | (simp; omega))
    go_wp2
    refine bodyPost_ret (v := .tuple #[.agg #[.int .i64 0, .int .i64 0], .bool false]) (by simp only [results, Try.results44]; go_simp) rfl ⟨rfl, ?_⟩
    (repeat (first | with_reducible exact Below.refl _ _ | with_reducible assumption | with_reducible refine balloc ?_ _ | with_reducible refine bdrew ?_ | with_reducible refine below_drewN ?_ _ | with_reducible refine bset ?_ ?_ _ | with_reducible exact Nat.le_refl _ | with_reducible refine bsize ?_ | (dsimp only; refine Nat.le_trans ?_ (Nat.le_add_right _ _)) | with_reducible refine Nat.le_trans ?_ (Nat.le_add_right _ _) | (with_reducible refine bstep ?_ (by assumption))))
  · simp only [if_true]
    have hle := rgB_le (trB_rg hr)
    have hall := Lib.hid (fun (p : StaV) (hp : p ∈ trL l k) => rgB_all (trB_rg hr) (trL_mem hp))
    have hlen := trL_length hr
    rw [hr] at HR
    clear h hr
    generalize trL l k = L at *
    generalize l.length = m at *
    obtain ⟨R, hR⟩ : ∃ R, ct L = R := ⟨_, rfl⟩
    have hR2 := Lib.hid hR
    rw [hR]
    clear hR
    go_enter Try.func44, Try.ntmps44
    go_wp2_with fail
    refine (HR.out _ (by (repeat (first | with_reducible exact Below.refl _ _ | with_reducible assumption | with_reducible refine balloc ?_ _ | with_reducible refine bdrew ?_ | with_reducible refine below_drewN ?_ _ | with_reducible refine bset ?_ ?_ _ | with_reducible exact Nat.le_refl _ | with_reducible refine bsize ?_ | (dsimp only; refine Nat.le_trans ?_ (Nat.le_add_right _ _)) | with_reducible refine Nat.le_trans ?_ (Nat.le_add_right _ _) | (with_reducible refine bstep ?_ (by assumption)))))).mono ?_
    rintro e w1 ⟨v1, rfl, hown, hb1⟩
    have hb10 := hb1
    obtain ⟨kc1, kf1, kz1, ky1, kx1, kv1, ku1⟩ := bcell hb1
    have r1 : w1.cell? ⟨w.heap.size, 0, none⟩ = some (.int .i64 0) := (by rw [kc1 (w.heap.size) _ (by first | (simp; done) | (simp; omega))]; first | (simp; done) | (simp [go_sem]; done)); have r2 : w1.cell? ⟨w.heap.size, 1, none⟩ = some (.int .i64 0) := (by rw [kc1 (w.heap.size) _ (by first | (simp; done) | (simp; omega))]; first | (simp; done) | (simp [go_sem]; done)); have r3 : w1.frozen? ⟨w.heap.size, 0, none⟩ = false := (by rw [kf1 (w.heap.size) _ (by first | (simp; done) | (simp; omega))]; first | (simp; done) | (simp [go_sem]; done)); have r4 : w1.frozen? ⟨w.heap.size, 1, none⟩ = false := (by rw [kf1 (w.heap.size) _ (by first | (simp; done) | (simp; omega))]; first | (simp; done) | (simp [go_sem]; done)); have rz : w.heap.size < w1.heap.size := kz1 (w.heap.size) (by first | (simp; done) | (simp; omega))
    have rz := kz1 w.heap.size (by simp)
    clear kc1 kf1 kz1 ky1 kx1 kv1 ku1
    have hrow := rowG_own fSta_len hown (fun p hp y hy => by
      have := hall.out p hp
      simp [fSta] at hy
      omega)
    obtain ⟨a, cap, rfl, hL⟩ := rowG_part hrow (by omega)
    have hbw : Below w.heap.size w w1 := by (repeat (first | with_reducible exact Below.refl _ _ | with_reducible assumption | with_reducible refine balloc ?_ _ | with_reducible refine bdrew ?_ | with_reducible refine below_drewN ?_ _ | with_reducible refine bset ?_ ?_ _ | with_reducible exact Nat.le_refl _ | with_reducible refine bsize ?_ | (dsimp only; refine Nat.le_trans ?_ (Nat.le_add_right _ _)) | with_reducible refine Nat.le_trans ?_ (Nat.le_add_right _ _) | (with_reducible refine bstep ?_ (by assumption))))
    clear hown hrow hb1 HR hb10
    have hlc := hL.hlc
    have hcap := hL.hcap
    go_wp2
    go_loopw [9, 11, 23] (fun t u i wr => ∃ (j : Nat) (s : CtV), j ≤ L.length ∧ i = .int .i64 j ∧ t = .int .i64 s.t ∧ Hid (CtOk s j) ∧ Hid (ctF (L.drop j) s = R) ∧
      wr.cell? ⟨w1.heap.size, 0, none⟩ = some (.int .i64 s.m) ∧ wr.cell? ⟨w1.heap.size, 1, none⟩ = some (.int .i64 s.k) ∧ wr.frozen? ⟨w1.heap.size, 0, none⟩ = false ∧ wr.frozen? ⟨w1.heap.size, 1, none⟩ = false ∧ w1.heap.size < wr.heap.size ∧ Below w1.heap.size w1 wr) (fun _ _ i _ => L.length - (intOf i).toNat)
    case atStart =>
      refine ⟨0, ⟨0, 0, 0⟩, Nat.zero_le _, rfl, rfl, Lib.hid ctok_start, Lib.hid hR2.out, ?_, ?_, ?_, ?_, ?_, ?_⟩
      all_goals first | ((repeat (first | with_reducible exact Below.refl _ _ | with_reducible assumption | with_reducible refine balloc ?_ _ | with_reducible refine bdrew ?_ | with_reducible refine below_drewN ?_ _ | with_reducible refine bset ?_ ?_ _ | with_reducible exact Nat.le_refl _ | with_reducible refine bsize ?_ | (dsimp only; refine Nat.le_trans ?_ (Nat.le_add_right _ _)) | with_reducible refine Nat.le_trans ?_ (Nat.le_add_right _ _) | (with_reducible refine bstep ?_ (by assumption)))); done) | (simp [go_sem]; done)
    case round =>
      obtain ⟨j, s, hj, rfl, rfl, hok, hfold, s1, s2, s3, s4, hs, hbel⟩ := hrel
      by_cases hlt : j < L.length
      · obtain ⟨p, hp⟩ : ∃ p, L[j]? = some p := ⟨_, List.getElem?_eq_getElem hlt⟩
        have hL2 := liesG_below hL hbel
        have hc := hL2.hcell j p hp
        have e0 := hc 0 p.a rfl
        rw [Nat.add_zero] at e0
        have e1 : wr.cell? ⟨(a.add (j * 2)).block, (a.add (j * 2)).off + 1, none⟩ = some (.int .i64 p.b) := by
          have h := hc 1 p.b rfl
          rw [← Deep.add_add] at h
          exact h
        clear hc
        have hpb := hall.out p (List.mem_of_getElem? hp)
        have hok2 := Lib.hid (ctok_step hok.out hpb.1 hpb.2)
        have hnx := Lib.hid (ct_next hp hfold.out)
        have hO := hok.out
        have b0 : -20000 ≤ s.t ∧ s.t ≤ 20000 := by have := hO.t0; have := hO.t1; omega
        have b1 : 0 ≤ s.m ∧ s.m ≤ 20000 := by have := hO.m0; have := hO.m1; omega
        have b2 : 0 ≤ s.k ∧ s.k ≤ 20000 := by have := hO.k0; have := hO.k1; omega
        obtain ⟨pa, pb⟩ := hpb
        have i1 : (0 : Int) ≤ (j : Int) := by omega
        have i2 : (j : Int) < (L.length : Int) := by omega
        clear hL2 hfold hok hp hO
        generalize hs2 : ctStep s p = s2v at *
        have e1 : Hid (s2v.t = s.t + p.a - p.b) := Lib.hid (by rw [← hs2]; rfl)
        have e2 : Hid (s2v.m = if s.m < s.t + p.a then s.t + p.a else s.m) := Lib.hid (by rw [← hs2]; rfl)
        have e3 : Hid (s2v.k = if s.k < -(s.t + p.a - p.b) then -(s.t + p.a - p.b) else s.k) := Lib.hid (by rw [← hs2]; rfl)
        clear hs2
        generalize p.a = x at *
        generalize p.b = y at *
        obtain ⟨t, m0, k0⟩ := s
        simp only at b0 b1 b2 s1 s2 e1 e2 e3
        go_wp2
        go_roundw
        case rel =>
          refine ⟨j + 1, s2v, by omega, by go_num, ?_, hok2, hnx, ?_, ?_, ?_, ?_, ?_, ?_⟩
          · rw [e1.out]
          · rw [e2.out]; simp [go_sem, s1, s2, hs]
          · rw [e3.out]; simp [go_sem, s1, s2, hs]
          · simp [go_sem, s3, hs]
          · simp [go_sem, s4, hs]
          · simp; omega
          · (repeat (first | with_reducible exact Below.refl _ _ | with_reducible assumption | with_reducible refine balloc ?_ _ | with_reducible refine bdrew ?_ | with_reducible refine below_drewN ?_ _ | with_reducible refine bset ?_ ?_ _ | with_reducible exact Nat.le_refl _ | with_reducible refine bsize ?_ | (dsimp only; refine Nat.le_trans ?_ (Nat.le_add_right _ _)) | with_reducible refine Nat.le_trans ?_ (Nat.le_add_right _ _) | (with_reducible refine bstep ?_ (by assumption))))
        case measure => simp [intOf]; omega
      · have hjl : j = L.length := by omega
        subst hjl
        have hfin := ct_end hfold.out
        have q1 := keepa hbel rz r1
        have q2 := keepa hbel rz r2
        have q3 := keepf hbel rz r3
        have q4 := keepf hbel rz r4
        have q5 := Nat.lt_of_lt_of_le rz hbel.size
        subst hfin
        clear r1 r2 r3 r4 hfold hL hok hR2
        obtain ⟨t, m0, k0⟩ := s
        simp only at s1 s2 ⊢
        go_wp2
        refine bodyPost_ret (v := .tuple #[.agg #[.int .i64 m0, .int .i64 k0], .bool true]) (by simp only [results, Try.results44]; go_simp) rfl ⟨rfl, ?_⟩
        (repeat (first | with_reducible exact Below.refl _ _ | with_reducible assumption | with_reducible refine balloc ?_ _ | with_reducible refine bdrew ?_ | with_reducible refine below_drewN ?_ _ | with_reducible refine bset ?_ ?_ _ | with_reducible exact Nat.le_refl _ | with_reducible refine bsize ?_ | (dsimp only; refine Nat.le_trans ?_ (Nat.le_add_right _ _)) | with_reducible refine Nat.le_trans ?_ (Nat.le_add_right _ _) | (with_reducible refine bstep ?_ (by assumption))))
end Go.Proofs.Ytcgchgkgmfemeaa
