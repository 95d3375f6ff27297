/- Rings: the way around, of the model. -/
import Derived.Test.YtcgchgkgmfemeaaRingC
import Derived.Deep.RegionHeld3
import Derived.Deep.DeepCutAuto
namespace Go.Proofs.Ytcgchgkgmfemeaa
open Go.ChangeShapes Go.WideShapes Go.ChangeAt Go.RowKit Go.Joins
set_option maxRecDepth 100000
set_option linter.unusedVariables false
set_option linter.unusedSimpArgs false


theorem most_spec6 (a b : Int) (w : World) :
    Calls Try.prog 52 #[.int .i64 a, .int .i64 b] w fun e w' => e = .returned (.int .i64 (mxI a b)) ∧ w = w' := by
  by_cases h : b < a
  · have e : mxI a b = a := by unfold mxI; rw [if_neg (by omega)]
    rw [e]
    clear e
    go_enter Try.func52, Try.ntmps52
    go_wp2
    go_ret
    exact ⟨rfl, rfl⟩
  · have e : mxI a b = b := by unfold mxI; split <;> omega
    rw [e]
    clear e
    go_enter Try.func52, Try.ntmps52
    go_wp2
    go_ret
    exact ⟨rfl, rfl⟩
theorem trL_get {l : List StaV} {n j : Nat} {p : StaV} (h : trB l n = true) (hp : (trL l n)[j]? = some p) : l[(n + j) % l.length]? = some p := by
  have hn : n < l.length := by have := trB_in h; omega
  have hj : j < l.length := by have := (List.getElem?_eq_some_iff.1 hp).1; rw [trL_length h] at this; exact this
  rw [trL_yes h] at hp
  by_cases hc : n + j < l.length
  · rw [Nat.mod_eq_of_lt hc]
    rw [List.getElem?_append_left (by rw [List.length_drop]; omega), List.getElem?_drop] at hp
    exact hp
  · have e : (n + j) % l.length = n + j - l.length := by
      rw [Nat.mod_eq_sub_mod (by omega), Nat.mod_eq_of_lt (by omega)]
    rw [e]
    rw [List.getElem?_append_right (by rw [List.length_drop]; omega), List.length_drop, List.getElem?_take] at hp
    split at hp
    · rw [show n + j - l.length = j - (l.length - n) by omega]; exact hp
    · cases hp
set_option maxHeartbeats 3200000 in
theorem extra_spec (v : Value) (l : List StaV) (k : Int) (hr : trB l k = true) (w : World) (h : RowG 2 fSta w v l) :
    Calls Try.prog 43 #[v, .int .i64 k] w fun e w' => e = .returned (.tuple #[.int .i64 (ct (trL l k)).k, .int .i64 (ct (trL l k)).m]) ∧ Below w.heap.size w w' := by
  have hle := rgB_le (trB_rg hr)
  obtain ⟨a, cap, rfl, hL⟩ := rowG_part h hle.1
  clear h
  have hin := trB_in hr
  obtain ⟨n, rfl⟩ : ∃ n : Nat, k = (n : Int) := ⟨k.toNat, by omega⟩
  have hn : n < l.length := by omega
  have hget := Lib.hid (fun j p (hp : (trL l n)[j]? = some p) => trL_get hr hp)
  have hall := Lib.hid (fun (p : StaV) (hp : p ∈ trL l n) => rgB_all (trB_rg hr) (trL_mem hp))
  have hlen := trL_length hr
  have hlc := hL.hlc
  have hcap := hL.hcap
  clear hr hin
  generalize trL l n = L at *
  obtain ⟨R, hR⟩ : ∃ R, ct L = R := ⟨_, rfl⟩
  have hR2 := Lib.hid hR
  rw [hR]
  clear hR
  have HM := Lib.hid (fun a b W => most_spec6 a b W)
  go_enter Try.func43, Try.ntmps43
  go_wp2
  go_loopw [6, 7, 8, 9, 10, 13] (fun t lk ms u v i wr => ∃ (j : Nat) (s : CtV), j ≤ L.length ∧ i = .int .i64 j ∧ t = .int .i64 s.t ∧ ms = .int .i64 s.m ∧ lk = .int .i64 s.k ∧ Hid (CtOk s j) ∧ Hid (ctF (L.drop j) s = R) ∧ Below w.heap.size w wr) (fun _ _ _ _ _ i _ => L.length - (intOf i).toNat)
  case atStart =>
    refine ⟨0, ⟨0, 0, 0⟩, Nat.zero_le _, rfl, rfl, rfl, rfl, Lib.hid ctok_start, Lib.hid hR2.out, ?_⟩
    (repeat (first | with_reducible exact Below.refl _ _ | with_reducible assumption | with_reducible refine balloc ?_ _ | with_reducible refine bdrew ?_ | with_reducible refine below_drewN ?_ _ | with_reducible refine bset ?_ ?_ _ | with_reducible exact Nat.le_refl _ | with_reducible refine bsize ?_ | (dsimp only; refine Nat.le_trans ?_ (Nat.le_add_right _ _)) | with_reducible refine Nat.le_trans ?_ (Nat.le_add_right _ _) | (with_reducible refine bstep ?_ (by assumption))))
  case round =>
    obtain ⟨j, s, hj, rfl, rfl, rfl, rfl, hok, hfold, hbel⟩ := hrel
    by_cases hlt : j < L.length
    · obtain ⟨p, hp⟩ : ∃ p, L[j]? = some p := ⟨_, List.getElem?_eq_getElem hlt⟩
      have hL2 := liesG_below hL hbel
      have hp2 := hget.out j p hp
      have hq : (n + j) % l.length < l.length := Nat.mod_lt _ (by omega)
      have hmod : Int.tmod ((n : Int) + (j : Int)) (l.length : Int) = (((n + j) % l.length : Nat) : Int) := by
        rw [Int.tmod_eq_emod_of_nonneg (by omega)]; simp
      generalize (n + j) % l.length = q at *
      have hpb := hall.out p (List.mem_of_getElem? hp)
      have hok2 := Lib.hid (ctok_step hok.out hpb.1 hpb.2)
      have hnx := Lib.hid (ct_next hp hfold.out)
      clear hp
      have hp := hp2
      have hc := hL2.hcell q p hp
      have e0 := hc 0 p.a rfl
      rw [Nat.add_zero] at e0
      have e1 : wr.cell? ⟨(a.add (q * 2)).block, (a.add (q * 2)).off + 1, none⟩ = some (.int .i64 p.b) := by
        have h := hc 1 p.b rfl
        rw [← Deep.add_add] at h
        exact h
      clear hc
      have hO := hok.out
      have b0 : -20000 ≤ s.t ∧ s.t ≤ 20000 := by have := hO.t0; have := hO.t1; omega
      have b1 : 0 ≤ s.m ∧ s.m ≤ 20000 := by have := hO.m0; have := hO.m1; omega
      have b2 : 0 ≤ s.k ∧ s.k ≤ 20000 := by have := hO.k0; have := hO.k1; omega
      obtain ⟨pa, pb⟩ := hpb
      have i1 : (0 : Int) ≤ (j : Int) := by omega
      have i2 : (j : Int) < (l.length : Int) := by omega
      clear hL2 hfold hok hO hp2
      generalize hs2 : ctStep s p = s2v at *
      have e1 : s.t + p.a - p.b = s2v.t := by rw [← hs2]; rfl
      have e2 : mxI s.m (s.t + p.a) = s2v.m := by rw [← hs2]; rfl
      have e3 : mxI s.k (-(s.t + p.a - p.b)) = s2v.k := by rw [← hs2]; rfl
      replace e1 := Lib.hid e1
      replace e2 := Lib.hid e2
      replace e3 := Lib.hid e3
      clear hs2
      generalize p.a = x at *
      generalize p.b = y at *
      obtain ⟨t, m0, k0⟩ := s
      obtain ⟨t2, m2, k2⟩ := s2v
      simp only at b0 b1 b2 e1 e2 e3
      go_wp2_with (go_at_call 52; refine (HM.out _ _ _).mono ?_; rintro e w1 ⟨rfl, rfl⟩; first | rw [e2.out] | rw [e3.out])
      go_roundw
      case rel =>
        refine ⟨j + 1, ⟨t2, m2, k2⟩, by omega, by go_num, ?_, rfl, rfl, hok2, hnx, ?_⟩
        · rw [← e1.out]
        · (repeat (first | with_reducible exact Below.refl _ _ | with_reducible assumption | with_reducible refine balloc ?_ _ | with_reducible refine bdrew ?_ | with_reducible refine below_drewN ?_ _ | with_reducible refine bset ?_ ?_ _ | with_reducible exact Nat.le_refl _ | with_reducible refine bsize ?_ | (dsimp only; refine Nat.le_trans ?_ (Nat.le_add_right _ _)) | with_reducible refine Nat.le_trans ?_ (Nat.le_add_right _ _) | (with_reducible refine bstep ?_ (by assumption))))
      case measure => simp [intOf]; omega
    · have hjl : j = L.length := by omega
      subst hjl
      have hfin := ct_end hfold.out
      subst hfin
      clear hfold hL hok hR2 hget hall HM
      obtain ⟨t, m0, k0⟩ := s
      go_wp2
      refine bodyPost_ret (v := .tuple #[.int .i64 k0, .int .i64 m0]) (by simp only [results, Try.results43]; go_simp) rfl ⟨rfl, ?_⟩
      (repeat (first | with_reducible exact Below.refl _ _ | with_reducible assumption | with_reducible refine balloc ?_ _ | with_reducible refine bdrew ?_ | with_reducible refine below_drewN ?_ _ | with_reducible refine bset ?_ ?_ _ | with_reducible exact Nat.le_refl _ | with_reducible refine bsize ?_ | (dsimp only; refine Nat.le_trans ?_ (Nat.le_add_right _ _)) | with_reducible refine Nat.le_trans ?_ (Nat.le_add_right _ _) | (with_reducible refine bstep ?_ (by assumption))))
end Go.Proofs.Ytcgchgkgmfemeaa
