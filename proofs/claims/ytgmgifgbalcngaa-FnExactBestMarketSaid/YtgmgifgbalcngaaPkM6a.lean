/- Several texts in one, in their order. -/
import Derived.Test.YtgmgifgbalcngaaCam4
import Derived.Test.YtgmgifgbalcngaaCam5
import Derived.Deep.RegionHeld3
import Derived.Deep.DeepCutAuto
import Derived.Test.YtgmgifgbalcngaaCamK
import Derived.Test.YtgmgifgbalcngaaAddUp
import Derived.Test.YtgmgifgbalcngaaAns
import Derived.Test.YtgmgifgbalcngaaInc
import Derived.Test.YtgmgifgbalcngaaCamE
import Derived.Test.YtgmgifgbalcngaaCamO
import Derived.Test.YtgmgifgbalcngaaOpsS
/- Camels: contracts of CountTrips, RateOf on both sides. -/
namespace Go.Proofs.Ytgmgifgbalcngaa
open Go.RowKit
set_option maxRecDepth 100000
set_option linter.unusedVariables false
set_option linter.unusedSimpArgs false

/-- How often at first; the rate at first. -/
def ctX (L E n d : Int) : Int := if askB L E n d = true then (trp (L * d) n : Int) else 0
def rtX (L E n d : Int) : Int := if askB L E n d = true then (2 * (trp (L * d) n : Int) - 1) * E else 0
end Go.Proofs.Ytgmgifgbalcngaa

/- Camels: StopsOf on both sides. -/
namespace Go.Proofs.Ytgmgifgbalcngaa
open Go.ChangeShapes Go.WideShapes Go.ChangeAt Go.RowKit Go.Joins
set_option maxRecDepth 100000
set_option linter.unusedVariables false
set_option linter.unusedSimpArgs false

/-- The first i of the places where the rate changes. -/
def soP (L E d n : Int) (t i : Nat) : List (Int × Int) := (List.range i).map fun (m : Nat) => (paX L E d n t (m + 1), paY L E d n t (m + 1))
theorem soP_len (L E d n : Int) (t i : Nat) : (soP L E d n t i).length = i := by simp [soP]
theorem soP_succ (L E d n : Int) (t i : Nat) : soP L E d n t (i + 1) = soP L E d n t i ++ [(paX L E d n t (i + 1), paY L E d n t (i + 1))] := by simp [soP, List.range_succ]
def soL (L E n d : Int) : List (Int × Int) := if askB L E n d = true then soP L E d n (trp (L * d) n) (trp (L * d) n - 1) else []
theorem so_len (L E n d : Int) : (soL L E n d).length ≤ 1000 := by
  unfold soL; split
  · rw [soP_len]; have := trp_bd (L * d) n; omega
  · simp
theorem so_low {L E d n : Int} {t : Nat} (H : CamIn L E d n t) (i : Nat) (hi : i ≤ t) : lowB (paX L E d n t i) (paY L E d n t i) = true ∧ lowN (paX L E d n t i) (paY L E d n t i) = paX L E d n t i ∧ lowD (paX L E d n t i) (paY L E d n t i) = paY L E d n t i := by
  have hb := pa_bd H i hi
  have hdE := H.dE
  refine low_am _ _ ((amB_iff _ _).2 ⟨hb.1, by omega, hb.2.2.1, by omega, ?_⟩)
  exact low_coprime (paA L d n t i) (3465 * (d * E)) (by omega)
theorem gi_one (k : Int) : gi k 1 = 1 := by unfold gi; simp
/-- What the program asks of WayWith for the i-th place. -/
theorem so_way {L E d n : Int} {t : Nat} (H : CamIn L E d n t) (ht : trp (L * d) n = t) (ha : askB L E n d = true) (i k : Nat) (hi : k + i = t) (h1 : 1 ≤ i) (hk : 1 ≤ k) :
    twoN (wayWithK L E n d (k * L) 1) (wayWithX L E n d (k * L) 1) (wayWithM L E n d (k * L) 1) = paX L E d n t i ∧ twoD (wayWithK L E n d (k * L) 1) (wayWithX L E n d (k * L) 1) (wayWithM L E n d (k * L) 1) = paY L E d n t i := by
  obtain ⟨l1, l2⟩ := H.ld
  have hdE := H.dE
  have tb := H.ht.b
  have hkL := mul_le2 (k : Int) L 6 12 (by omega) (by omega) (by have := H.L1; omega) H.L2
  have hK : wayWithK L E n d (k * L) 1 = true := by
    have e1 : d * ((k : Int) * L) = k * (L * d) := by ac_rfl
    have e2 : L * (d * 1) = L * d := by rw [Int.mul_one]
    have e3 : (k : Int) * (L * d) ≤ 6 * (L * d) := Int.mul_le_mul_of_nonneg_right (by omega) (by omega)
    unfold wayWithK plB
    rw [ha, (amB_iff _ _).2 ⟨hkL.1, by omega, by omega, by omega, gi_one _⟩, e1, e2, decide_eq_true e3]
    simp
  rw [hK, (two_yes _ _).1, (two_yes _ _).2.1]
  have eX : wayWithX L E n d (k * L) 1 = paA L d n t i := by
    unfold wayWithX paA paU
    have e1 : d * ((k : Int) * L) = k * (L * d) := by ac_rfl
    have e2 : (t : Int) - i = k := by omega
    rw [if_neg (by omega), e1, e2, Int.mul_one, Int.one_mul]
  have eM : wayWithM L E n d (k * L) 1 = 3465 * (d * E) := by unfold wayWithM; rw [Int.mul_one]; ac_rfl
  rw [eX, eM]
  have hs := so_low H i (by omega)
  have hr := rd_is (paA L d n t i) (3465 * (d * E)) (by omega)
  have hb := pa_bd H i (by omega)
  have hl := lw_scale (gi (paA L d n t i) (3465 * (d * E))) (paX L E d n t i) (paY L E d n t i) (by have := hr.g1; omega) hb.2.2.1
  have f1 : gi (paA L d n t i) (3465 * (d * E)) * paX L E d n t i = paA L d n t i := hr.n1.symm
  have f2 : gi (paA L d n t i) (3465 * (d * E)) * paY L E d n t i = 3465 * (d * E) := hr.d1.symm
  rw [f1, f2] at hl
  exact ⟨hl.2.1.trans hs.2.1, hl.2.2.trans hs.2.2⟩
end Go.Proofs.Ytgmgifgbalcngaa

/- Camels: what is left at camps, on both sides. -/
namespace Go.Proofs.Ytgmgifgbalcngaa
open Go.ChangeShapes Go.WideShapes Go.ChangeAt Go.RowKit Go.Joins
set_option maxRecDepth 100000
set_option linter.unusedVariables false
set_option linter.unusedSimpArgs false

def clF (L E n d : Int) (p : Int × Int) : Int × Int := (eaN L E n d p.1 p.2, eaD L E n d p.1 p.2)
def clG (L E n d : Int) (p : Int × Int) : Bool := eaB L E n d p.1 p.2
def clB (L E n d : Int) (l : List (Int × Int)) : Bool := ((askB L E n d && choB l) && incB l) && l.all (clG L E n d)
def clL (L E n d : Int) (l : List (Int × Int)) : List (Int × Int) := if clB L E n d l = true then l.map (clF L E n d) else []
theorem clL_len (L E n d : Int) (l : List (Int × Int)) : (clL L E n d l).length ≤ 1000 := by
  unfold clL
  split
  · next h =>
    unfold clB choB at h
    simp at h
    simp; omega
  · simp
theorem cl_take (L E n d : Int) (l : List (Int × Int)) (k : Nat) (p : Int × Int) (hp : l[k]? = some p) : (l.take (k + 1)).map (clF L E n d) = (l.take k).map (clF L E n d) ++ [(eaN L E n d p.1 p.2, eaD L E n d p.1 p.2)] := by
  rw [List.take_add_one, hp]; simp [clF]
theorem cl_no {L E n d : Int} {l : List (Int × Int)} {k : Nat} {p : Int × Int} (hp : l[k]? = some p) (h : eaB L E n d p.1 p.2 = false) : clB L E n d l = false := by
  have : l.all (clG L E n d) = false := by
    rw [Bool.eq_false_iff]
    intro hb
    have := (List.all_eq_true.1 hb) p (List.mem_of_getElem? hp)
    unfold clG at this
    rw [h] at this
    cases this
  unfold clB; rw [this]; simp
theorem cl_next {L E n d : Int} {l : List (Int × Int)} {k : Nat} {p : Int × Int} (hp : l[k]? = some p) (h : eaB L E n d p.1 p.2 = true) (hall : ∀ j p, j < k → l[j]? = some p → clG L E n d p = true) : ∀ j p, j < k + 1 → l[j]? = some p → clG L E n d p = true := by
  intro j q hj hq
  by_cases e : j = k
  · subst e
    rw [hp] at hq
    injection hq with hq
    subst hq
    exact h
  · exact hall j q (by omega) hq
theorem cl_all {L E n d : Int} {l : List (Int × Int)} (hall : ∀ j p, j < l.length → l[j]? = some p → clG L E n d p = true) : l.all (clG L E n d) = true := by
  refine List.all_eq_true.2 fun p hp => ?_
  obtain ⟨j, hj, hjp⟩ := List.mem_iff_getElem.1 hp
  exact hall j p hj (by rw [List.getElem?_eq_getElem hj, hjp])
set_option maxHeartbeats 3200000 in
theorem camps_impl_some (L E n d : Int) (bn : -9223372036854775808 ≤ n ∧ n ≤ 9223372036854775807) (bd : -9223372036854775808 ≤ d ∧ d ≤ 9223372036854775807) (a : Addr) (cap : Nat) (l : List (Int × Int)) (w : World) (hL : LiesG 2 fAmt w a cap l) :
    Calls Try.prog 20 #[.agg #[.int .i64 L, .int .i64 E], .agg #[.int .i64 n, .int .i64 d], .slice (some a) l.length cap] w (AnsG 28 2 fAmt (clL L E n d l) (clB L E n d l) w) := by
  have hlc := hL.hlc
  have hcap := hL.hcap
  have HA := Lib.hid (fun W => ask_impl L E n d bn bd W)
  have HC : Hid (∀ W, Below w.heap.size w W → Calls Try.prog 29 #[.slice (some a) l.length cap, .int .i64 20, .func (.func 30) #[] #[]] W fun e w' => e = .returned (.bool (choB l)) ∧ Below W.heap.size W w') := Lib.hid (fun W h => cho_is _ l W (Or.inr ⟨a, cap, rfl, liesG_below hL h⟩))
  have HI : Hid (∀ W, Below w.heap.size w W → Calls Try.prog 45 #[.slice (some a) l.length cap] W fun e w' => e = .returned (.bool (incB l)) ∧ Below W.heap.size W w') := Lib.hid (fun W h => incr_row _ l W (Or.inr ⟨a, cap, rfl, liesG_below hL h⟩))
  cases h1 : askB L E n d
  · have eB : clB L E n d l = false := by unfold clB; rw [h1]; rfl
    have eL : clL L E n d l = [] := by unfold clL; rw [eB]; rfl
    rw [eB, eL]
    clear eB eL
    rw [h1] at HA
    clear h1
    go_enter Try.func20, Try.ntmps20
    (go_wp2_with fail; refine (HA.out _).mono ?_; rintro e w1 ⟨rfl, hb1⟩; have ha1 := hb1; obtain ⟨kc1, kf1, kz1, ky1, kx1, kv1, ku1⟩ := bcell hb1)
    go_wp2
    refine bodyPost_ret (v := .tuple #[.slice none 0 0, .bool false]) (by simp only [results, Try.results20]; go_simp) rfl ?_
    exact ans_owns rfl ⟨rfl, Or.inl ⟨rfl, rfl⟩⟩ (by (repeat (first | with_reducible exact Below.refl _ _ | with_reducible assumption | with_reducible refine balloc ?_ _ | with_reducible refine bdrew ?_ | with_reducible refine below_drewN ?_ _ | with_reducible refine bset ?_ ?_ _ | with_reducible exact Nat.le_refl _ | with_reducible refine bsize ?_ | (dsimp only; refine Nat.le_trans ?_ (Nat.le_add_right _ _)) | with_reducible refine Nat.le_trans ?_ (Nat.le_add_right _ _) | (with_reducible refine bstep ?_ (by assumption)))))
  cases h2 : choB l
  · have eB : clB L E n d l = false := by unfold clB; rw [h2, Bool.and_false]; rfl
    have eL : clL L E n d l = [] := by unfold clL; rw [eB]; rfl
    rw [eB, eL]
    clear eB eL
    rw [h1] at HA
    rw [h2] at HC
    clear h1 h2
    go_enter Try.func20, Try.ntmps20
    (go_wp2_with fail; refine (HA.out _).mono ?_; rintro e w1 ⟨rfl, hb1⟩; have ha1 := hb1; obtain ⟨kc1, kf1, kz1, ky1, kx1, kv1, ku1⟩ := bcell hb1)
    (go_wp2_with fail; refine (HC.out _ (by (repeat (first | with_reducible exact Below.refl _ _ | with_reducible assumption | with_reducible refine balloc ?_ _ | with_reducible refine bdrew ?_ | with_reducible refine below_drewN ?_ _ | with_reducible refine bset ?_ ?_ _ | with_reducible exact Nat.le_refl _ | with_reducible refine bsize ?_ | (dsimp only; refine Nat.le_trans ?_ (Nat.le_add_right _ _)) | with_reducible refine Nat.le_trans ?_ (Nat.le_add_right _ _) | (with_reducible refine bstep ?_ (by assumption)))))).mono ?_; rintro e w2 ⟨rfl, hb2⟩; (have ha2 : Below w.heap.size w w2 := by (repeat (first | with_reducible exact Below.refl _ _ | with_reducible assumption | with_reducible refine balloc ?_ _ | with_reducible refine bdrew ?_ | with_reducible refine below_drewN ?_ _ | with_reducible refine bset ?_ ?_ _ | with_reducible exact Nat.le_refl _ | with_reducible refine bsize ?_ | (dsimp only; refine Nat.le_trans ?_ (Nat.le_add_right _ _)) | with_reducible refine Nat.le_trans ?_ (Nat.le_add_right _ _) | (with_reducible refine bstep ?_ (by assumption))))); obtain ⟨kc2, kf2, kz2, ky2, kx2, kv2, ku2⟩ := bcell hb2)
    go_wp2
    refine bodyPost_ret (v := .tuple #[.slice none 0 0, .bool false]) (by simp only [results, Try.results20]; go_simp) rfl ?_
    exact ans_owns rfl ⟨rfl, Or.inl ⟨rfl, rfl⟩⟩ (by (repeat (first | with_reducible exact Below.refl _ _ | with_reducible assumption | with_reducible refine balloc ?_ _ | with_reducible refine bdrew ?_ | with_reducible refine below_drewN ?_ _ | with_reducible refine bset ?_ ?_ _ | with_reducible exact Nat.le_refl _ | with_reducible refine bsize ?_ | (dsimp only; refine Nat.le_trans ?_ (Nat.le_add_right _ _)) | with_reducible refine Nat.le_trans ?_ (Nat.le_add_right _ _) | (with_reducible refine bstep ?_ (by assumption)))))
  cases h3 : incB l
  · have eB : clB L E n d l = false := by unfold clB; rw [h3, Bool.and_false]; rfl
    have eL : clL L E n d l = [] := by unfold clL; rw [eB]; rfl
    rw [eB, eL]
    clear eB eL
    rw [h1] at HA
    rw [h2] at HC
    rw [h3] at HI
    clear h1 h2 h3
    go_enter Try.func20, Try.ntmps20
    (go_wp2_with fail; refine (HA.out _).mono ?_; rintro e w1 ⟨rfl, hb1⟩; have ha1 := hb1; obtain ⟨kc1, kf1, kz1, ky1, kx1, kv1, ku1⟩ := bcell hb1)
    (go_wp2_with fail; refine (HC.out _ (by (repeat (first | with_reducible exact Below.refl _ _ | with_reducible assumption | with_reducible refine balloc ?_ _ | with_reducible refine bdrew ?_ | with_reducible refine below_drewN ?_ _ | with_reducible refine bset ?_ ?_ _ | with_reducible exact Nat.le_refl _ | with_reducible refine bsize ?_ | (dsimp only; refine Nat.le_trans ?_ (Nat.le_add_right _ _)) | with_reducible refine Nat.le_trans ?_ (Nat.le_add_right _ _) | (with_reducible refine bstep ?_ (by assumption)))))).mono ?_; rintro e w2 ⟨rfl, hb2⟩; (have ha2 : Below w.heap.size w w2 := by (repeat (first | with_reducible exact Below.refl _ _ | with_reducible assumption | with_reducible refine balloc ?_ _ | with_reducible refine bdrew ?_ | with_reducible refine below_drewN ?_ _ | with_reducible refine bset ?_ ?_ _ | with_reducible exact Nat.le_refl _ | with_reducible refine bsize ?_ | (dsimp only; refine Nat.le_trans ?_ (Nat.le_add_right _ _)) | with_reducible refine Nat.le_trans ?_ (Nat.le_add_right _ _) | (with_reducible refine bstep ?_ (by assumption))))); obtain ⟨kc2, kf2, kz2, ky2, kx2, kv2, ku2⟩ := bcell hb2)
    (go_wp2_with fail; refine (HI.out _ (by (repeat (first | with_reducible exact Below.refl _ _ | with_reducible assumption | with_reducible refine balloc ?_ _ | with_reducible refine bdrew ?_ | with_reducible refine below_drewN ?_ _ | with_reducible refine bset ?_ ?_ _ | with_reducible exact Nat.le_refl _ | with_reducible refine bsize ?_ | (dsimp only; refine Nat.le_trans ?_ (Nat.le_add_right _ _)) | with_reducible refine Nat.le_trans ?_ (Nat.le_add_right _ _) | (with_reducible refine bstep ?_ (by assumption)))))).mono ?_; rintro e w3 ⟨rfl, hb3⟩; (have ha3 : Below w.heap.size w w3 := by (repeat (first | with_reducible exact Below.refl _ _ | with_reducible assumption | with_reducible refine balloc ?_ _ | with_reducible refine bdrew ?_ | with_reducible refine below_drewN ?_ _ | with_reducible refine bset ?_ ?_ _ | with_reducible exact Nat.le_refl _ | with_reducible refine bsize ?_ | (dsimp only; refine Nat.le_trans ?_ (Nat.le_add_right _ _)) | with_reducible refine Nat.le_trans ?_ (Nat.le_add_right _ _) | (with_reducible refine bstep ?_ (by assumption))))); obtain ⟨kc3, kf3, kz3, ky3, kx3, kv3, ku3⟩ := bcell hb3)
    go_wp2
    refine bodyPost_ret (v := .tuple #[.slice none 0 0, .bool false]) (by simp only [results, Try.results20]; go_simp) rfl ?_
    exact ans_owns rfl ⟨rfl, Or.inl ⟨rfl, rfl⟩⟩ (by (repeat (first | with_reducible exact Below.refl _ _ | with_reducible assumption | with_reducible refine balloc ?_ _ | with_reducible refine bdrew ?_ | with_reducible refine below_drewN ?_ _ | with_reducible refine bset ?_ ?_ _ | with_reducible exact Nat.le_refl _ | with_reducible refine bsize ?_ | (dsimp only; refine Nat.le_trans ?_ (Nat.le_add_right _ _)) | with_reducible refine Nat.le_trans ?_ (Nat.le_add_right _ _) | (with_reducible refine bstep ?_ (by assumption)))))
  have h20 : l.length ≤ 20 := by unfold choB at h2; simp at h2; exact h2.1
  have HB : Hid (clB L E n d l = l.all (clG L E n d)) := Lib.hid (by unfold clB; rw [h1, h2, h3]; rfl)
  rw [h1] at HA
  rw [h2] at HC
  rw [h3] at HI
  clear h1 h2 h3
  obtain ⟨i0, hi, hz0, hz1, hz2⟩ := info_parts infoAmt
  go_enter Try.func20, Try.ntmps20
  (go_wp2_with fail; refine (HA.out _).mono ?_; rintro e w1 ⟨rfl, hb1⟩; have ha1 := hb1; obtain ⟨kc1, kf1, kz1, ky1, kx1, kv1, ku1⟩ := bcell hb1)
  have c1 : w1.cell? ⟨w.heap.size, 0, none⟩ = some (.int .i64 L) := by rw [kc1 _ _ (by simp)]; simp
  have c2 : w1.cell? ⟨w.heap.size, 1, none⟩ = some (.int .i64 E) := by rw [kc1 _ _ (by simp)]; simp
  have c3 : w1.cell? ⟨w.heap.size + 1, 0, none⟩ = some (.int .i64 n) := by rw [kc1 _ _ (by simp)]; simp
  have c4 : w1.cell? ⟨w.heap.size + 1, 1, none⟩ = some (.int .i64 d) := by rw [kc1 _ _ (by simp)]; simp
  have a1 : w.heap.size + 1 < w1.heap.size := kz1 _ (by simp)
  (go_wp2_with fail; refine (HC.out _ (by (repeat (first | with_reducible exact Below.refl _ _ | with_reducible assumption | with_reducible refine balloc ?_ _ | with_reducible refine bdrew ?_ | with_reducible refine below_drewN ?_ _ | with_reducible refine bset ?_ ?_ _ | with_reducible exact Nat.le_refl _ | with_reducible refine bsize ?_ | (dsimp only; refine Nat.le_trans ?_ (Nat.le_add_right _ _)) | with_reducible refine Nat.le_trans ?_ (Nat.le_add_right _ _) | (with_reducible refine bstep ?_ (by assumption)))))).mono ?_; rintro e w2 ⟨rfl, hb2⟩; (have ha2 : Below w.heap.size w w2 := by (repeat (first | with_reducible exact Below.refl _ _ | with_reducible assumption | with_reducible refine balloc ?_ _ | with_reducible refine bdrew ?_ | with_reducible refine below_drewN ?_ _ | with_reducible refine bset ?_ ?_ _ | with_reducible exact Nat.le_refl _ | with_reducible refine bsize ?_ | (dsimp only; refine Nat.le_trans ?_ (Nat.le_add_right _ _)) | with_reducible refine Nat.le_trans ?_ (Nat.le_add_right _ _) | (with_reducible refine bstep ?_ (by assumption))))); obtain ⟨kc2, kf2, kz2, ky2, kx2, kv2, ku2⟩ := bcell hb2)
  have f2 : Below w1.heap.size w1 w2 := bstep (by (repeat (first | with_reducible exact Below.refl _ _ | with_reducible assumption | with_reducible refine balloc ?_ _ | with_reducible refine bdrew ?_ | with_reducible refine below_drewN ?_ _ | with_reducible refine bset ?_ ?_ _ | with_reducible exact Nat.le_refl _ | with_reducible refine bsize ?_ | (dsimp only; refine Nat.le_trans ?_ (Nat.le_add_right _ _)) | with_reducible refine Nat.le_trans ?_ (Nat.le_add_right _ _) | (with_reducible refine bstep ?_ (by assumption))))) hb2
  replace c1 := keepa f2 (by omega) c1
  replace c2 := keepa f2 (by omega) c2
  replace c3 := keepa f2 (by omega) c3
  replace c4 := keepa f2 (by omega) c4
  replace a1 : w.heap.size + 1 < w2.heap.size := Nat.lt_of_lt_of_le a1 f2.size
  (go_wp2_with fail; refine (HI.out _ (by (repeat (first | with_reducible exact Below.refl _ _ | with_reducible assumption | with_reducible refine balloc ?_ _ | with_reducible refine bdrew ?_ | with_reducible refine below_drewN ?_ _ | with_reducible refine bset ?_ ?_ _ | with_reducible exact Nat.le_refl _ | with_reducible refine bsize ?_ | (dsimp only; refine Nat.le_trans ?_ (Nat.le_add_right _ _)) | with_reducible refine Nat.le_trans ?_ (Nat.le_add_right _ _) | (with_reducible refine bstep ?_ (by assumption)))))).mono ?_; rintro e w3 ⟨rfl, hb3⟩; (have ha3 : Below w.heap.size w w3 := by (repeat (first | with_reducible exact Below.refl _ _ | with_reducible assumption | with_reducible refine balloc ?_ _ | with_reducible refine bdrew ?_ | with_reducible refine below_drewN ?_ _ | with_reducible refine bset ?_ ?_ _ | with_reducible exact Nat.le_refl _ | with_reducible refine bsize ?_ | (dsimp only; refine Nat.le_trans ?_ (Nat.le_add_right _ _)) | with_reducible refine Nat.le_trans ?_ (Nat.le_add_right _ _) | (with_reducible refine bstep ?_ (by assumption))))); obtain ⟨kc3, kf3, kz3, ky3, kx3, kv3, ku3⟩ := bcell hb3)
  have f3 : Below w2.heap.size w2 w3 := bstep (by (repeat (first | with_reducible exact Below.refl _ _ | with_reducible assumption | with_reducible refine balloc ?_ _ | with_reducible refine bdrew ?_ | with_reducible refine below_drewN ?_ _ | with_reducible refine bset ?_ ?_ _ | with_reducible exact Nat.le_refl _ | with_reducible refine bsize ?_ | (dsimp only; refine Nat.le_trans ?_ (Nat.le_add_right _ _)) | with_reducible refine Nat.le_trans ?_ (Nat.le_add_right _ _) | (with_reducible refine bstep ?_ (by assumption))))) hb3
  replace c1 := keepa f3 (by omega) c1
  replace c2 := keepa f3 (by omega) c2
  replace c3 := keepa f3 (by omega) c3
  replace c4 := keepa f3 (by omega) c4
  replace a1 : w.heap.size + 1 < w3.heap.size := Nat.lt_of_lt_of_le a1 f3.size
  have hbw := ha3
  clear ha1 ha2 ha3 hb1 hb2 hb3 f2 f3 kc1 kf1 kz1 ky1 kx1 kv1 ku1 kc2 kf2 kz2 ky2 kx2 kv2 ku2 kc3 kf3 kz3 ky3 kx3 kv3 ku3
  go_wp2
  go_loopw [8, 29] (fun u i wr => ∃ (k : Nat) (v : Value), v = u ∧ k ≤ l.length ∧ i = .int .i64 k ∧ wr.ownsRow w3.heap.size 28 2 v k (cellsG fAmt ((l.take k).map (clF L E n d))) ∧ Hid (∀ j p, j < k → l[j]? = some p → clG L E n d p = true) ∧ Below w3.heap.size w3 wr) (fun _ i _ => l.length - (intOf i).toNat)
  case atStart => exact ⟨0, _, rfl, Nat.zero_le _, rfl, ⟨rfl, Or.inl ⟨rfl, rfl⟩⟩, Lib.hid (fun j p h _ => absurd h (by omega)), by (repeat (first | with_reducible exact Below.refl _ _ | with_reducible assumption | with_reducible refine balloc ?_ _ | with_reducible refine bdrew ?_ | with_reducible refine below_drewN ?_ _ | with_reducible refine bset ?_ ?_ _ | with_reducible exact Nat.le_refl _ | with_reducible refine bsize ?_ | (dsimp only; refine Nat.le_trans ?_ (Nat.le_add_right _ _)) | with_reducible refine Nat.le_trans ?_ (Nat.le_add_right _ _) | (with_reducible refine bstep ?_ (by assumption))))⟩
  case round =>
    obtain ⟨k, v, rfl, hk, rfl, hown, hall, hbel⟩ := hrel
    by_cases hlt : k < l.length
    · obtain ⟨p, hp⟩ : ∃ p, l[k]? = some p := ⟨_, List.getElem?_eq_getElem hlt⟩
      have hL2 := liesG_below hL (bstep hbw hbel)
      have hc := hL2.hcell k p hp
      have e0 := hc 0 p.1 rfl
      rw [Nat.add_zero] at e0
      have e1 : wr.cell? ⟨(a.add (k * 2)).block, (a.add (k * 2)).off + 1, none⟩ = some (.int .i64 p.2) := by
        have h := hc 1 p.2 rfl
        rw [← Deep.add_add] at h
        exact h
      clear hc
      have hbd := hL.hbd p (List.mem_of_getElem? hp)
      have b0 : -9223372036854775808 ≤ p.1 ∧ p.1 ≤ 9223372036854775807 := hbd p.1 (by simp [fAmt])
      have b1 : -9223372036854775808 ≤ p.2 ∧ p.2 ≤ 9223372036854775807 := hbd p.2 (by simp [fAmt])
      clear hbd
      have HLE : Hid (∀ W, Calls Try.prog 46 #[.agg #[.int .i64 L, .int .i64 E], .agg #[.int .i64 n, .int .i64 d], .agg #[.int .i64 p.1, .int .i64 p.2]] W fun e w' => e = .returned (.tuple #[.agg #[.int .i64 (eaN L E n d p.1 p.2), .int .i64 (eaD L E n d p.1 p.2)], .bool (eaB L E n d p.1 p.2)]) ∧ Below W.heap.size W w') := Lib.hid (fun W => leftAt_pub L E n d p.1 p.2 bn bd b0 b1 W)
      have HSU := Lib.hid (cl_take L E n d l k p hp)
      replace c1 := keepa hbel (by omega) c1
      replace c2 := keepa hbel (by omega) c2
      replace c3 := keepa hbel (by omega) c3
      replace c4 := keepa hbel (by omega) c4
      replace a1 : w.heap.size + 1 < wr.heap.size := Nat.lt_of_lt_of_le a1 hbel.size
      have a0 : w.heap.size < wr.heap.size := by omega
      have i1 : (0 : Int) ≤ (k : Int) := by omega
      have i2 : (k : Int) < (l.length : Int) := by omega
      cases hE : eaB L E n d p.1 p.2
      · have eB : clB L E n d l = false := by unfold clB; exact (by have := cl_no (L := L) (E := E) (n := n) (d := d) hp hE; unfold clB at this; exact this)
        have eL : clL L E n d l = [] := by unfold clL; rw [eB]; rfl
        rw [eB, eL]
        clear eB eL
        rw [hE] at HLE
        generalize eaN L E n d p.1 p.2 = N at *
        generalize eaD L E n d p.1 p.2 = V at *
        clear hE hall hL2 hp HSU HB
        go_wp2_with fail
        refine (HLE.out _).mono ?_
        rintro e w5 ⟨rfl, hb5⟩
        have f5 : Below wr.heap.size wr w5 := bstep (by (repeat (first | with_reducible exact Below.refl _ _ | with_reducible assumption | with_reducible refine balloc ?_ _ | with_reducible refine bdrew ?_ | with_reducible refine below_drewN ?_ _ | with_reducible refine bset ?_ ?_ _ | with_reducible exact Nat.le_refl _ | with_reducible refine bsize ?_ | (dsimp only; refine Nat.le_trans ?_ (Nat.le_add_right _ _)) | with_reducible refine Nat.le_trans ?_ (Nat.le_add_right _ _) | (with_reducible refine bstep ?_ (by assumption))))) hb5
        have hz : Below w.heap.size w w5 := bstep (bstep hbw hbel) f5
        clear hb5 f5 hbel hbw hown
        go_wp2
        refine bodyPost_ret (v := .tuple #[.slice none 0 0, .bool false]) (by simp only [results, Try.results20]; go_simp) rfl ?_
        exact ans_owns rfl ⟨rfl, Or.inl ⟨rfl, rfl⟩⟩ (by (repeat (first | with_reducible exact Below.refl _ _ | with_reducible assumption | with_reducible refine balloc ?_ _ | with_reducible refine bdrew ?_ | with_reducible refine below_drewN ?_ _ | with_reducible refine bset ?_ ?_ _ | with_reducible exact Nat.le_refl _ | with_reducible refine bsize ?_ | (dsimp only; refine Nat.le_trans ?_ (Nat.le_add_right _ _)) | with_reducible refine Nat.le_trans ?_ (Nat.le_add_right _ _) | (with_reducible refine bstep ?_ (by assumption)))))
      · have hnext := Lib.hid (cl_next hp hE hall.out)
        rw [hE] at HLE
        generalize eaN L E n d p.1 p.2 = N at *
        generalize eaD L E n d p.1 p.2 = V at *
        clear hE hall hL2 hp
        go_wp2_with fail
        refine (HLE.out _).mono ?_
        rintro e w5 ⟨rfl, hb5⟩
        have f5 : Below wr.heap.size wr w5 := bstep (by (repeat (first | with_reducible exact Below.refl _ _ | with_reducible assumption | with_reducible refine balloc ?_ _ | with_reducible refine bdrew ?_ | with_reducible refine below_drewN ?_ _ | with_reducible refine bset ?_ ?_ _ | with_reducible exact Nat.le_refl _ | with_reducible refine bsize ?_ | (dsimp only; refine Nat.le_trans ?_ (Nat.le_add_right _ _)) | with_reducible refine Nat.le_trans ?_ (Nat.le_add_right _ _) | (with_reducible refine bstep ?_ (by assumption))))) hb5
        have own3 := ownsRow_below hown f5
        have hb2' : Below w3.heap.size w3 w5 := bstep hbel f5
        have hsz3 := hb2'.size
        clear hown hbel f5 hb5 e0 e1
        go_wp2_with (at_builtin; refine wpList_append_own _ rfl _ _ 34 rfl w3.heap.size 28 i0 (.agg #[.int .i64 0, .int .i64 0]) 2 16 Try.underlying34 hi hz0 hz1 hz2 rfl (by decide) v k (cellsG fAmt ((l.take k).map (clF L E n d))) rfl ?own ⟨_, 0, none⟩ 1 1 [.int .i64 N, .int .i64 V] rfl rfl ?s1 ?s2 ?s3 ?s4 ?s5 ?_)
        case own => (repeat (first | with_reducible assumption | with_reducible refine own_alloc ?_ _ | with_reducible refine own_drew ?_ | with_reducible refine own_set ?_ ?_ _))
        case s1 => first | exact cell_two_new _ _ _ _ | simp [go_sem]
        case s2 => simp [Value.oneCell']
        case s3 => unfold maxLen; omega
        case s4 => omega
        case s5 => first | (simp; done) | (simp; omega)
        intro v' w4 hown' hgrow hnn
        have hown2 : w4.ownsRow w3.heap.size 28 2 v' (k + 1) (cellsG fAmt ((l.take (k + 1)).map (clF L E n d))) := by
          rw [HSU.out, cellsG_snoc]; simpa [fAmt] using hown'
        have bel4 : Below w3.heap.size w3 w4 := by
          refine grown_bel (base := w3.heap.size) (e := 28) (size := 2) (n := k) (xs := cellsG fAmt ((l.take k).map (clF L E n d))) ?_ hgrow (by (repeat (first | with_reducible assumption | with_reducible refine own_alloc ?_ _ | with_reducible refine own_drew ?_ | with_reducible refine own_set ?_ ?_ _))) (Nat.le_refl _)
          (repeat (first | with_reducible exact Below.refl _ _ | with_reducible assumption | with_reducible refine balloc ?_ _ | with_reducible refine bdrew ?_ | with_reducible refine below_drewN ?_ _ | with_reducible refine bset ?_ ?_ _ | with_reducible exact Nat.le_refl _ | with_reducible refine bsize ?_ | (dsimp only; refine Nat.le_trans ?_ (Nat.le_add_right _ _)) | with_reducible refine Nat.le_trans ?_ (Nat.le_add_right _ _) | (with_reducible refine bstep ?_ (by assumption))))
        clear hown' hgrow own3 hb2'
        go_wp2
        go_roundw
        case rel => exact ⟨k + 1, _, rfl, by omega, by go_num, hown2, hnext, bel4⟩
        case measure => simp [intOf]; omega
    · have hk' : k = l.length := by omega
      subst hk'
      have HT : Hid (clB L E n d l = true ∧ clL L E n d l = l.map (clF L E n d)) := Lib.hid (by
        have e := (HB.out).trans (cl_all hall.out)
        exact ⟨e, by unfold clL; rw [e]; rfl⟩)
      clear hall HB
      rw [List.take_length] at hown
      go_wp2
      refine bodyPost_ret (v := .tuple #[v, .bool true]) (by simp only [results, Try.results20]; go_simp) rfl ?_
      rw [HT.out.1, HT.out.2]
      exact ans_owns (by simp) (own_mono hown hbw.size) (bstep hbw hbel)
theorem camps_impl_nil (L E n d : Int) (bn : -9223372036854775808 ≤ n ∧ n ≤ 9223372036854775807) (bd : -9223372036854775808 ≤ d ∧ d ≤ 9223372036854775807) (w : World) :
    Calls Try.prog 20 #[.agg #[.int .i64 L, .int .i64 E], .agg #[.int .i64 n, .int .i64 d], .slice none 0 0] w (AnsG 28 2 fAmt [] (askB L E n d) w) := by
  have HA := Lib.hid (fun W => ask_impl L E n d bn bd W)
  have HC : Hid (∀ W, Below w.heap.size w W → Calls Try.prog 29 #[.slice none 0 0, .int .i64 20, .func (.func 30) #[] #[]] W fun e w' => e = .returned (.bool true) ∧ Below W.heap.size W w') := Lib.hid (fun W h => cho_is _ [] W (Or.inl ⟨rfl, rfl⟩))
  have HI := Lib.hid (fun W => incr_nil W)
  cases h1 : askB L E n d
  · rw [h1] at HA
    clear h1
    go_enter Try.func20, Try.ntmps20
    (go_wp2_with fail; refine (HA.out _).mono ?_; rintro e w1 ⟨rfl, hb1⟩; have ha1 := hb1; obtain ⟨kc1, kf1, kz1, ky1, kx1, kv1, ku1⟩ := bcell hb1)
    go_wp2
    refine bodyPost_ret (v := .tuple #[.slice none 0 0, .bool false]) (by simp only [results, Try.results20]; go_simp) rfl ?_
    exact ans_owns rfl ⟨rfl, Or.inl ⟨rfl, rfl⟩⟩ (by (repeat (first | with_reducible exact Below.refl _ _ | with_reducible assumption | with_reducible refine balloc ?_ _ | with_reducible refine bdrew ?_ | with_reducible refine below_drewN ?_ _ | with_reducible refine bset ?_ ?_ _ | with_reducible exact Nat.le_refl _ | with_reducible refine bsize ?_ | (dsimp only; refine Nat.le_trans ?_ (Nat.le_add_right _ _)) | with_reducible refine Nat.le_trans ?_ (Nat.le_add_right _ _) | (with_reducible refine bstep ?_ (by assumption)))))
  · rw [h1] at HA
    clear h1
    go_enter Try.func20, Try.ntmps20
    (go_wp2_with fail; refine (HA.out _).mono ?_; rintro e w1 ⟨rfl, hb1⟩; have ha1 := hb1; obtain ⟨kc1, kf1, kz1, ky1, kx1, kv1, ku1⟩ := bcell hb1)
    (go_wp2_with fail; refine (HC.out _ (by (repeat (first | with_reducible exact Below.refl _ _ | with_reducible assumption | with_reducible refine balloc ?_ _ | with_reducible refine bdrew ?_ | with_reducible refine below_drewN ?_ _ | with_reducible refine bset ?_ ?_ _ | with_reducible exact Nat.le_refl _ | with_reducible refine bsize ?_ | (dsimp only; refine Nat.le_trans ?_ (Nat.le_add_right _ _)) | with_reducible refine Nat.le_trans ?_ (Nat.le_add_right _ _) | (with_reducible refine bstep ?_ (by assumption)))))).mono ?_; rintro e w2 ⟨rfl, hb2⟩; (have ha2 : Below w.heap.size w w2 := by (repeat (first | with_reducible exact Below.refl _ _ | with_reducible assumption | with_reducible refine balloc ?_ _ | with_reducible refine bdrew ?_ | with_reducible refine below_drewN ?_ _ | with_reducible refine bset ?_ ?_ _ | with_reducible exact Nat.le_refl _ | with_reducible refine bsize ?_ | (dsimp only; refine Nat.le_trans ?_ (Nat.le_add_right _ _)) | with_reducible refine Nat.le_trans ?_ (Nat.le_add_right _ _) | (with_reducible refine bstep ?_ (by assumption))))); obtain ⟨kc2, kf2, kz2, ky2, kx2, kv2, ku2⟩ := bcell hb2)
    (go_wp2_with fail; refine (HI.out _).mono ?_; rintro e w3 ⟨rfl, hb3⟩; (have ha3 : Below w.heap.size w w3 := by (repeat (first | with_reducible exact Below.refl _ _ | with_reducible assumption | with_reducible refine balloc ?_ _ | with_reducible refine bdrew ?_ | with_reducible refine below_drewN ?_ _ | with_reducible refine bset ?_ ?_ _ | with_reducible exact Nat.le_refl _ | with_reducible refine bsize ?_ | (dsimp only; refine Nat.le_trans ?_ (Nat.le_add_right _ _)) | with_reducible refine Nat.le_trans ?_ (Nat.le_add_right _ _) | (with_reducible refine bstep ?_ (by assumption))))); obtain ⟨kc3, kf3, kz3, ky3, kx3, kv3, ku3⟩ := bcell hb3)
    go_wp2
    go_loopw [8, 29] (fun u i wr => u = .slice none 0 0 ∧ i = .int .i64 0 ∧ wr = w3) (fun _ _ _ => 0)
    case atStart => exact ⟨rfl, rfl, rfl⟩
    case round =>
      obtain ⟨rfl, rfl, rfl⟩ := hrel
      go_wp2
      refine bodyPost_ret (v := .tuple #[.slice none 0 0, .bool true]) (by simp only [results, Try.results20]; go_simp) rfl ?_
      exact ans_owns rfl ⟨rfl, Or.inl ⟨rfl, rfl⟩⟩ (by assumption)
theorem camps_impl_row (L E n d : Int) (bn : -9223372036854775808 ≤ n ∧ n ≤ 9223372036854775807) (bd : -9223372036854775808 ≤ d ∧ d ≤ 9223372036854775807) (v : Value) (l : List (Int × Int)) (w : World) (h : RowG 2 fAmt w v l) :
    Calls Try.prog 20 #[.agg #[.int .i64 L, .int .i64 E], .agg #[.int .i64 n, .int .i64 d], v] w (AnsG 28 2 fAmt (clL L E n d l) (clB L E n d l) w) := by
  rcases h with ⟨rfl, rfl⟩ | ⟨a, cap, rfl, hL⟩
  · have e1 : clB L E n d [] = askB L E n d := by simp [clB, choB, incB]
    have e2 : clL L E n d [] = [] := by unfold clL; split <;> rfl
    rw [e1, e2]
    exact camps_impl_nil L E n d bn bd w
  · exact camps_impl_some L E n d bn bd a cap l w hL
end Go.Proofs.Ytgmgifgbalcngaa

/- Camels: what is left at camps, of the model. -/
namespace Go.Proofs.Ytgmgifgbalcngaa
open Go.ChangeShapes Go.WideShapes Go.ChangeAt Go.RowKit Go.Joins
set_option maxRecDepth 100000
set_option linter.unusedVariables false
set_option linter.unusedSimpArgs false

theorem caLeft_ea (L E n d p q : Int) (ha : askB L E n d = true) (hp : plB p q = true) (w : World) :
    Calls Try.prog 43 #[.agg #[.int .i64 L, .int .i64 E], .agg #[.int .i64 n, .int .i64 d], .agg #[.int .i64 p, .int .i64 q]] w fun e w' => e = .returned (.tuple #[.agg #[.int .i64 (eaN L E n d p q), .int .i64 (eaD L E n d p q)], .bool (eaB L E n d p q)]) ∧ Below w.heap.size w w' := by
  have hk : leftAtK L E n d p q = true := by unfold leftAtK; rw [ha, hp]; rfl
  have eN : eaN L E n d p q = lowN (leftAtX L E n d p q) (leftAtM L E n d p q) := by unfold eaN; rw [hk]; exact (two_yes _ _).1
  have eD : eaD L E n d p q = lowD (leftAtX L E n d p q) (leftAtM L E n d p q) := by unfold eaD; rw [hk]; exact (two_yes _ _).2.1
  have eB : eaB L E n d p q = lowB (leftAtX L E n d p q) (leftAtM L E n d p q) := by unfold eaB; rw [hk]; exact (two_yes _ _).2.2
  rw [eN, eD, eB]
  obtain ⟨i1, i2, i3, i4⟩ := askB_yes L E n d ha
  obtain ⟨j1, j2, j3, j4⟩ := camB_yes L E i1
  obtain ⟨x1, x2, x3, x4⟩ := am_of n d i2
  obtain ⟨i5, i6⟩ := plB_yes p q hp
  obtain ⟨y1, y2, y3, y4⟩ := am_of p q i5
  have H := cam_in L E d n j1 j2 j3 j4 x3 i3 x1 i4
  exact caLeft_spec L E n d p q _ H rfl y1 y2 y3 i6 w
theorem cmp_cm (n d p q : Int) (h1 : amB n d = true) (h2 : amB p q = true) (w : World) :
    Calls Try.prog 28 #[.agg #[.int .i64 n, .int .i64 d], .agg #[.int .i64 p, .int .i64 q]] w fun e w' => e = .returned (.int .i64 (cmI n d p q)) ∧ Below w.heap.size w w' := by
  have e : cmI n d p q = sgI (n * q - p * d) := by unfold cmI okk; rw [h1, h2]; rfl
  rw [e]
  exact cmp_spec n d p q (am_of n d h1) (am_of p q h2) w
set_option maxHeartbeats 3200000 in
theorem camps_spec_some (L E n d : Int) (bn : -9223372036854775808 ≤ n ∧ n ≤ 9223372036854775807) (bd : -9223372036854775808 ≤ d ∧ d ≤ 9223372036854775807) (a : Addr) (cap : Nat) (l : List (Int × Int)) (w : World) (hL : LiesG 2 fAmt w a cap l) :
    Calls Try.prog 19 #[.agg #[.int .i64 L, .int .i64 E], .agg #[.int .i64 n, .int .i64 d], .slice (some a) l.length cap] w (AnsG 28 2 fAmt (clL L E n d l) (clB L E n d l) w) := by
  have hlc := hL.hlc
  have hcap := hL.hcap
  have HA := Lib.hid (fun W => ask_spec L E n d bn bd W)
  have HC : Hid (∀ W, Below w.heap.size w W → Calls Try.prog 24 #[.slice (some a) l.length cap] W fun e w' => e = .returned (.bool (choB l)) ∧ Below W.heap.size W w') := Lib.hid (fun W h => ways_row _ l W (Or.inr ⟨a, cap, rfl, liesG_below hL h⟩))
  cases h1 : askB L E n d
  · have eB : clB L E n d l = false := by unfold clB; rw [h1]; rfl
    have eL : clL L E n d l = [] := by unfold clL; rw [eB]; rfl
    rw [eB, eL]
    clear eB eL
    rw [h1] at HA
    clear h1
    go_enter Try.func19, Try.ntmps19
    (go_wp2_with fail; refine (HA.out _).mono ?_; rintro e w1 ⟨rfl, hb1⟩; have ha1 := hb1; obtain ⟨kc1, kf1, kz1, ky1, kx1, kv1, ku1⟩ := bcell hb1)
    go_wp2
    refine bodyPost_ret (v := .tuple #[.slice none 0 0, .bool false]) (by simp only [results, Try.results19]; go_simp) rfl ?_
    exact ans_owns rfl ⟨rfl, Or.inl ⟨rfl, rfl⟩⟩ (by (repeat (first | with_reducible exact Below.refl _ _ | with_reducible assumption | with_reducible refine balloc ?_ _ | with_reducible refine bdrew ?_ | with_reducible refine below_drewN ?_ _ | with_reducible refine bset ?_ ?_ _ | with_reducible exact Nat.le_refl _ | with_reducible refine bsize ?_ | (dsimp only; refine Nat.le_trans ?_ (Nat.le_add_right _ _)) | with_reducible refine Nat.le_trans ?_ (Nat.le_add_right _ _) | (with_reducible refine bstep ?_ (by assumption)))))
  cases h2 : choB l
  · have eB : clB L E n d l = false := by unfold clB; rw [h2, Bool.and_false]; rfl
    have eL : clL L E n d l = [] := by unfold clL; rw [eB]; rfl
    rw [eB, eL]
    clear eB eL
    rw [h1] at HA
    rw [h2] at HC
    clear h1 h2
    go_enter Try.func19, Try.ntmps19
    (go_wp2_with fail; refine (HA.out _).mono ?_; rintro e w1 ⟨rfl, hb1⟩; have ha1 := hb1; obtain ⟨kc1, kf1, kz1, ky1, kx1, kv1, ku1⟩ := bcell hb1)
    (go_wp2_with fail; refine (HC.out _ (by (repeat (first | with_reducible exact Below.refl _ _ | with_reducible assumption | with_reducible refine balloc ?_ _ | with_reducible refine bdrew ?_ | with_reducible refine below_drewN ?_ _ | with_reducible refine bset ?_ ?_ _ | with_reducible exact Nat.le_refl _ | with_reducible refine bsize ?_ | (dsimp only; refine Nat.le_trans ?_ (Nat.le_add_right _ _)) | with_reducible refine Nat.le_trans ?_ (Nat.le_add_right _ _) | (with_reducible refine bstep ?_ (by assumption)))))).mono ?_; rintro e w2 ⟨rfl, hb2⟩; (have ha2 : Below w.heap.size w w2 := by (repeat (first | with_reducible exact Below.refl _ _ | with_reducible assumption | with_reducible refine balloc ?_ _ | with_reducible refine bdrew ?_ | with_reducible refine below_drewN ?_ _ | with_reducible refine bset ?_ ?_ _ | with_reducible exact Nat.le_refl _ | with_reducible refine bsize ?_ | (dsimp only; refine Nat.le_trans ?_ (Nat.le_add_right _ _)) | with_reducible refine Nat.le_trans ?_ (Nat.le_add_right _ _) | (with_reducible refine bstep ?_ (by assumption))))); obtain ⟨kc2, kf2, kz2, ky2, kx2, kv2, ku2⟩ := bcell hb2)
    go_wp2
    refine bodyPost_ret (v := .tuple #[.slice none 0 0, .bool false]) (by simp only [results, Try.results19]; go_simp) rfl ?_
    exact ans_owns rfl ⟨rfl, Or.inl ⟨rfl, rfl⟩⟩ (by (repeat (first | with_reducible exact Below.refl _ _ | with_reducible assumption | with_reducible refine balloc ?_ _ | with_reducible refine bdrew ?_ | with_reducible refine below_drewN ?_ _ | with_reducible refine bset ?_ ?_ _ | with_reducible exact Nat.le_refl _ | with_reducible refine bsize ?_ | (dsimp only; refine Nat.le_trans ?_ (Nat.le_add_right _ _)) | with_reducible refine Nat.le_trans ?_ (Nat.le_add_right _ _) | (with_reducible refine bstep ?_ (by assumption)))))
  have hask := Lib.hid h1
  have hpl : Hid (∀ (j : Nat) (p : Int × Int), l[j]? = some p → plB p.1 p.2 = true) := Lib.hid (fun j p hp => by
    unfold choB at h2
    rw [Bool.and_eq_true] at h2
    exact (List.all_eq_true.1 h2.2) p (List.mem_of_getElem? hp))
  have h20 : l.length ≤ 20 := by unfold choB at h2; simp at h2; exact h2.1
  have HB : Hid (clB L E n d l = (incB l && l.all (clG L E n d))) := Lib.hid (by unfold clB; rw [h1, h2]; rfl)
  rw [h1] at HA
  rw [h2] at HC
  clear h1 h2
  obtain ⟨i0, hi, hz0, hz1, hz2⟩ := info_parts infoAmt
  go_enter Try.func19, Try.ntmps19
  (go_wp2_with fail; refine (HA.out _).mono ?_; rintro e w1 ⟨rfl, hb1⟩; have ha1 := hb1; obtain ⟨kc1, kf1, kz1, ky1, kx1, kv1, ku1⟩ := bcell hb1)
  have c1 : w1.cell? ⟨w.heap.size, 0, none⟩ = some (.int .i64 L) := by rw [kc1 _ _ (by simp)]; simp
  have c2 : w1.cell? ⟨w.heap.size, 1, none⟩ = some (.int .i64 E) := by rw [kc1 _ _ (by simp)]; simp
  have c3 : w1.cell? ⟨w.heap.size + 1, 0, none⟩ = some (.int .i64 n) := by rw [kc1 _ _ (by simp)]; simp
  have c4 : w1.cell? ⟨w.heap.size + 1, 1, none⟩ = some (.int .i64 d) := by rw [kc1 _ _ (by simp)]; simp
  have a1 : w.heap.size + 1 < w1.heap.size := kz1 _ (by simp)
  (go_wp2_with fail; refine (HC.out _ (by (repeat (first | with_reducible exact Below.refl _ _ | with_reducible assumption | with_reducible refine balloc ?_ _ | with_reducible refine bdrew ?_ | with_reducible refine below_drewN ?_ _ | with_reducible refine bset ?_ ?_ _ | with_reducible exact Nat.le_refl _ | with_reducible refine bsize ?_ | (dsimp only; refine Nat.le_trans ?_ (Nat.le_add_right _ _)) | with_reducible refine Nat.le_trans ?_ (Nat.le_add_right _ _) | (with_reducible refine bstep ?_ (by assumption)))))).mono ?_; rintro e w2 ⟨rfl, hb2⟩; (have ha2 : Below w.heap.size w w2 := by (repeat (first | with_reducible exact Below.refl _ _ | with_reducible assumption | with_reducible refine balloc ?_ _ | with_reducible refine bdrew ?_ | with_reducible refine below_drewN ?_ _ | with_reducible refine bset ?_ ?_ _ | with_reducible exact Nat.le_refl _ | with_reducible refine bsize ?_ | (dsimp only; refine Nat.le_trans ?_ (Nat.le_add_right _ _)) | with_reducible refine Nat.le_trans ?_ (Nat.le_add_right _ _) | (with_reducible refine bstep ?_ (by assumption))))); obtain ⟨kc2, kf2, kz2, ky2, kx2, kv2, ku2⟩ := bcell hb2)
  have f2 : Below w1.heap.size w1 w2 := bstep (by (repeat (first | with_reducible exact Below.refl _ _ | with_reducible assumption | with_reducible refine balloc ?_ _ | with_reducible refine bdrew ?_ | with_reducible refine below_drewN ?_ _ | with_reducible refine bset ?_ ?_ _ | with_reducible exact Nat.le_refl _ | with_reducible refine bsize ?_ | (dsimp only; refine Nat.le_trans ?_ (Nat.le_add_right _ _)) | with_reducible refine Nat.le_trans ?_ (Nat.le_add_right _ _) | (with_reducible refine bstep ?_ (by assumption))))) hb2
  replace c1 := keepa f2 (by omega) c1
  replace c2 := keepa f2 (by omega) c2
  replace c3 := keepa f2 (by omega) c3
  replace c4 := keepa f2 (by omega) c4
  replace a1 : w.heap.size + 1 < w2.heap.size := Nat.lt_of_lt_of_le a1 f2.size
  have hbw := ha2
  clear ha1 ha2 hb1 hb2 f2 kc1 kf1 kz1 ky1 kx1 kv1 ku1 kc2 kf2 kz2 ky2 kx2 kv2 ku2
  go_wp2
  go_loopw [8, 24] (fun u i wr => ∃ (k : Nat) (v : Value), v = u ∧ k ≤ l.length ∧ i = .int .i64 k ∧ wr.ownsRow w2.heap.size 28 2 v k (cellsG fAmt ((l.take k).map (clF L E n d))) ∧ Hid (∀ j p, j < k → l[j]? = some p → clG L E n d p = true) ∧ Hid (∀ j, j + 1 < k → cmAt l j < 0) ∧ Below w2.heap.size w2 wr) (fun _ i _ => l.length - (intOf i).toNat)
  case atStart => exact ⟨0, _, rfl, Nat.zero_le _, rfl, ⟨rfl, Or.inl ⟨rfl, rfl⟩⟩, Lib.hid (fun j p h _ => absurd h (by omega)), Lib.hid (fun j h => absurd h (by omega)), by (repeat (first | with_reducible exact Below.refl _ _ | with_reducible assumption | with_reducible refine balloc ?_ _ | with_reducible refine bdrew ?_ | with_reducible refine below_drewN ?_ _ | with_reducible refine bset ?_ ?_ _ | with_reducible exact Nat.le_refl _ | with_reducible refine bsize ?_ | (dsimp only; refine Nat.le_trans ?_ (Nat.le_add_right _ _)) | with_reducible refine Nat.le_trans ?_ (Nat.le_add_right _ _) | (with_reducible refine bstep ?_ (by assumption))))⟩
  case round =>
    obtain ⟨k, v, rfl, hk, rfl, hown, hall, hinc, hbel⟩ := hrel
    by_cases hlt : k < l.length
    · obtain ⟨p, hp⟩ : ∃ p, l[k]? = some p := ⟨_, List.getElem?_eq_getElem hlt⟩
      have hL2 := liesG_below hL (bstep hbw hbel)
      have hc := hL2.hcell k p hp
      have e0 := hc 0 p.1 rfl
      rw [Nat.add_zero] at e0
      have e1 : wr.cell? ⟨(a.add (k * 2)).block, (a.add (k * 2)).off + 1, none⟩ = some (.int .i64 p.2) := by
        have h := hc 1 p.2 rfl
        rw [← Deep.add_add] at h
        exact h
      clear hc
      have hbd := hL.hbd p (List.mem_of_getElem? hp)
      have b0 : -9223372036854775808 ≤ p.1 ∧ p.1 ≤ 9223372036854775807 := hbd p.1 (by simp [fAmt])
      have b1 : -9223372036854775808 ≤ p.2 ∧ p.2 ≤ 9223372036854775807 := hbd p.2 (by simp [fAmt])
      clear hbd
      have hpp := hpl.out k p hp
      have HLE := Lib.hid (fun W => caLeft_ea L E n d p.1 p.2 hask.out hpp W)
      have HSU := Lib.hid (cl_take L E n d l k p hp)
      replace c1 := keepa hbel (by omega) c1
      replace c2 := keepa hbel (by omega) c2
      replace c3 := keepa hbel (by omega) c3
      replace c4 := keepa hbel (by omega) c4
      replace a1 : w.heap.size + 1 < wr.heap.size := Nat.lt_of_lt_of_le a1 hbel.size
      have a0 : w.heap.size < wr.heap.size := by omega
      have i1 : (0 : Int) ≤ (k : Int) := by omega
      have i2 : (k : Int) < (l.length : Int) := by omega
      obtain ⟨BB, hBB⟩ : ∃ BB : Bool, BB = decide (0 < k ∧ ¬ cmAt l (k - 1) < 0) := ⟨_, rfl⟩
      have HBB := Lib.hid hBB
      clear hBB
      have hz1' : (a.add (k * 2)).block < wr.heap.size := cell_lt e0
      go_upto_region 7 with fail
      go_cut [40] (fun s40 wx => s40 = .bool BB ∧ Below wr.heap.size wr wx ∧ wx.cell? ⟨wr.heap.size, 0, none⟩ = some (.int .i64 p.1) ∧ wx.cell? ⟨wr.heap.size, 1, none⟩ = some (.int .i64 p.2) ∧ wr.heap.size < wx.heap.size)
      case first =>
        by_cases h0 : k = 0
        · subst h0
          refine wp_region_held_drew (S := (fun W => Below wr.heap.size wr W ∧ wr.heap.size < W.heap.size ∧ W.cell? ⟨wr.heap.size, 0, none⟩ = some (.int .i64 p.1) ∧ W.cell? ⟨wr.heap.size, 1, none⟩ = some (.int .i64 p.2))) (by kernel_rfl) ?_ (fun hHeld0 => ?_)
          · (try dsimp only); (go_split_ands; (repeat' with_reducible apply And.intro) <;> first | with_reducible assumption | ((repeat (first | with_reducible exact Below.refl _ _ | with_reducible assumption | with_reducible refine balloc ?_ _ | with_reducible refine bdrew ?_ | with_reducible refine below_drewN ?_ _ | with_reducible refine bset ?_ ?_ _ | with_reducible exact Nat.le_refl _ | with_reducible refine bsize ?_ | (dsimp only; refine Nat.le_trans ?_ (Nat.le_add_right _ _)) | with_reducible refine Nat.le_trans ?_ (Nat.le_add_right _ _) | (with_reducible refine bstep ?_ (by assumption)))); done) | (simp [go_sem]; done) | go_keep)
          (refine wpAnyH_take (i := 0) (oi := { dst := some 29, op := Op.move (Operand.tmp 9), type := 3, pos := "l4_camel.go:293", after := #[], guard := none }) (v := ?_) rfl (by kernel_rfl) (by kernel_rfl) (by kernel_rfl) (fun _ _ _ h => h) (Or.inl ⟨by rfl, ?_⟩) (by assumption) ?_; rotate_left; (focus (intro w hSw; (try dsimp only at hSw); go_simp; try with_reducible rfl)); (try simp only [Act.put, List.setIfInBounds_toArray, List.set_cons_zero, List.set_cons_succ]))
          (refine wpAnyH_take (i := 1) (oi := { dst := some 30, op := Op.binOp BinOp.gtr 3 (Operand.tmp 29) (Operand.const (Value.int IntKind.i64 0)) 3, type := 4, pos := "l4_camel.go:293", after := #[{ on := 0, ground := Ground.data }], guard := none }) (v := ?_) rfl (by kernel_rfl) (by kernel_rfl) (by kernel_rfl) (fun _ _ _ h => h) (Or.inl ⟨by rfl, ?_⟩) (by assumption) ?_; rotate_left; (focus (intro w hSw; (try dsimp only at hSw); go_simp; try with_reducible rfl)); (try simp only [Act.put, List.setIfInBounds_toArray, List.set_cons_zero, List.set_cons_succ]))
          (refine wpAnyH_take (i := 2) (oi := { dst := some 31, op := Op.move (Operand.tmp 30), type := 4, pos := "l4_camel.go:293", after := #[{ on := 1, ground := Ground.data }], guard := none }) (v := ?_) rfl (by kernel_rfl) (by kernel_rfl) (by kernel_rfl) (fun _ _ _ h => h) (Or.inl ⟨by rfl, ?_⟩) (by assumption) ?_; rotate_left; (focus (intro w hSw; (try dsimp only at hSw); go_simp; try with_reducible rfl)); (try simp only [Act.put, List.setIfInBounds_toArray, List.set_cons_zero, List.set_cons_succ]))
          (refine wpAnyH_take (i := 3) (oi := { dst := some 32, op := Op.move (Operand.tmp 2), type := 34, pos := "l4_camel.go:293", after := #[{ on := 2, ground := Ground.guard }], guard := some (2, true) }) (v := undef) rfl (by kernel_rfl) (by kernel_rfl) (by kernel_rfl) (fun _ _ _ h => h) (Or.inr ⟨by rfl, rfl⟩) (by assumption) ?_; (try simp only [Act.put, List.setIfInBounds_toArray, List.set_cons_zero, List.set_cons_succ]))
          (refine wpAnyH_take (i := 4) (oi := { dst := some 33, op := Op.move (Operand.tmp 9), type := 3, pos := "l4_camel.go:293", after := #[{ on := 2, ground := Ground.guard }], guard := some (2, true) }) (v := undef) rfl (by kernel_rfl) (by kernel_rfl) (by kernel_rfl) (fun _ _ _ h => h) (Or.inr ⟨by rfl, rfl⟩) (by assumption) ?_; (try simp only [Act.put, List.setIfInBounds_toArray, List.set_cons_zero, List.set_cons_succ]))
          (refine wpAnyH_take (i := 5) (oi := { dst := some 34, op := Op.binOp BinOp.sub 3 (Operand.tmp 33) (Operand.const (Value.int IntKind.i64 1)) 3, type := 3, pos := "l4_camel.go:293", after := #[{ on := 4, ground := Ground.data }, { on := 2, ground := Ground.guard }], guard := some (2, true) }) (v := undef) rfl (by kernel_rfl) (by kernel_rfl) (by kernel_rfl) (fun _ _ _ h => h) (Or.inr ⟨by rfl, rfl⟩) (by assumption) ?_; (try simp only [Act.put, List.setIfInBounds_toArray, List.set_cons_zero, List.set_cons_succ]))
          (refine wpAnyH_take (i := 6) (oi := { dst := some 35, op := Op.indexAddr 34 (Operand.tmp 32) (Operand.tmp 34), type := 0, pos := "l4_camel.go:293", after := #[{ on := 3, ground := Ground.data }, { on := 5, ground := Ground.data }, { on := 2, ground := Ground.guard }], guard := some (2, true) }) (v := undef) rfl (by kernel_rfl) (by kernel_rfl) (by kernel_rfl) (fun _ _ _ h => h) (Or.inr ⟨by rfl, rfl⟩) (by assumption) ?_; (try simp only [Act.put, List.setIfInBounds_toArray, List.set_cons_zero, List.set_cons_succ]))
          (refine wpAnyH_take (i := 7) (oi := { dst := some 36, op := Op.load 28 (Operand.tmp 35), type := 28, pos := "l4_camel.go:293", after := #[{ on := 6, ground := Ground.data }, { on := 2, ground := Ground.guard }], guard := some (2, true) }) (v := undef) rfl (by kernel_rfl) (by kernel_rfl) (by kernel_rfl) (fun _ _ _ h => h) (Or.inr ⟨by rfl, rfl⟩) (by assumption) ?_; (try simp only [Act.put, List.setIfInBounds_toArray, List.set_cons_zero, List.set_cons_succ]))
          (refine wpAnyH_take (i := 8) (oi := { dst := some 37, op := Op.load 28 (Operand.tmp 10), type := 28, pos := "l4_camel.go:293", after := #[{ on := 2, ground := Ground.guard }], guard := some (2, true) }) (v := undef) rfl (by kernel_rfl) (by kernel_rfl) (by kernel_rfl) (fun _ _ _ h => h) (Or.inr ⟨by rfl, rfl⟩) (by assumption) ?_; (try simp only [Act.put, List.setIfInBounds_toArray, List.set_cons_zero, List.set_cons_succ]))
          (refine wpAnyH_take (i := 9) (oi := { dst := some 38, op := Op.call { callee := Callee.value (Operand.func 28), args := #[Operand.tmp 36, Operand.tmp 37], argTypes := #[28, 28] }, type := 3, pos := "l4_camel.go:293", after := #[{ on := 7, ground := Ground.data }, { on := 8, ground := Ground.data }, { on := 2, ground := Ground.chain }, { on := 2, ground := Ground.guard }], guard := some (2, true) }) (v := undef) rfl (by kernel_rfl) (by kernel_rfl) (by kernel_rfl) (fun _ _ _ h => h) (Or.inr ⟨by rfl, rfl⟩) (by assumption) ?_; (try simp only [Act.put, List.setIfInBounds_toArray, List.set_cons_zero, List.set_cons_succ]))
          (refine wpAnyH_take (i := 10) (oi := { dst := some 39, op := Op.binOp BinOp.geq 3 (Operand.tmp 38) (Operand.const (Value.int IntKind.i64 0)) 3, type := 4, pos := "l4_camel.go:293", after := #[{ on := 9, ground := Ground.data }, { on := 2, ground := Ground.guard }], guard := some (2, true) }) (v := undef) rfl (by kernel_rfl) (by kernel_rfl) (by kernel_rfl) (fun _ _ _ h => h) (Or.inr ⟨by rfl, rfl⟩) (by assumption) ?_; (try simp only [Act.put, List.setIfInBounds_toArray, List.set_cons_zero, List.set_cons_succ]))
          (refine wpAnyH_take (i := 11) (oi := { dst := some 40, op := Op.pick (Operand.tmp 31) (Operand.tmp 39) (Operand.const (Value.bool false)), type := 4, pos := "l4_camel.go:293", after := #[{ on := 2, ground := Ground.data }, { on := 10, ground := Ground.data }], guard := none }) (v := ?_) rfl (by kernel_rfl) (by kernel_rfl) (by kernel_rfl) (fun _ _ _ h => h) (Or.inl ⟨by rfl, ?_⟩) (by assumption) ?_; rotate_left; (focus (intro w hSw; (try dsimp only at hSw); go_simp; try with_reducible rfl)); (try simp only [Act.put, List.setIfInBounds_toArray, List.set_cons_zero, List.set_cons_succ]))
          refine wpAnyH_done (by kernel_rfl) ?_ _
          all_goals (go_wp2_with fail; go_meet)
          all_goals refine ⟨by rw [HBB.out]; simp, by (repeat (first | with_reducible exact Below.refl _ _ | with_reducible assumption | with_reducible refine balloc ?_ _ | with_reducible refine bdrew ?_ | with_reducible refine below_drewN ?_ _ | with_reducible refine bset ?_ ?_ _ | with_reducible exact Nat.le_refl _ | with_reducible refine bsize ?_ | (dsimp only; refine Nat.le_trans ?_ (Nat.le_add_right _ _)) | with_reducible refine Nat.le_trans ?_ (Nat.le_add_right _ _) | (with_reducible refine bstep ?_ (by assumption)))), by simp [go_sem], by simp [go_sem], by simp⟩
        · obtain ⟨m, rfl⟩ : ∃ m, k = m + 1 := ⟨k - 1, by omega⟩
          obtain ⟨q, hq⟩ : ∃ q, l[m]? = some q := ⟨_, List.getElem?_eq_getElem (by omega)⟩
          have hc := hL2.hcell (m) q hq
          have f0 := hc 0 q.1 rfl
          rw [Nat.add_zero] at f0
          have f1 : wr.cell? ⟨(a.add ((m) * 2)).block, (a.add ((m) * 2)).off + 1, none⟩ = some (.int .i64 q.2) := by
            have h := hc 1 q.2 rfl
            rw [← Deep.add_add] at h
            exact h
          clear hc
          have hqq := hpl.out m q hq
          have HM := Lib.hid (fun W => cmp_cm q.1 q.2 p.1 p.2 (plB_yes _ _ hqq).1 (plB_yes _ _ hpp).1 W)
          rw [← cmAt_is l m q p hq hp] at HM
          have HCM : Hid (∃ C, cmAt l m = C) := Lib.hid ⟨_, rfl⟩
          obtain ⟨C, HC2⟩ := HCM.out
          rw [HC2] at HM
          have HCM := Lib.hid HC2
          clear HC2
          have z1 := cell_lt f0
          have i3 : (0 : Int) ≤ (m : Int) := by omega
          have i4 : (m : Int) < (l.length : Int) := by omega
          have wq : IntKind.i64.wrap (m : Int) = (m : Int) := IntWalk.i64_in _ (by omega)
          have hS := Lib.hid (fun (W : World) (h : Below wr.heap.size wr W ∧ wr.heap.size < W.heap.size ∧ W.cell? ⟨wr.heap.size, 0, none⟩ = some (.int .i64 p.1) ∧ W.cell? ⟨wr.heap.size, 1, none⟩ = some (.int .i64 p.2)) => (⟨h.1, h.2.1, h.2.2.1, h.2.2.2, (h.1.cell z1).trans f0, (h.1.cell (p := ⟨(a.add (m * 2)).block, (a.add (m * 2)).off + 1, none⟩) z1).trans f1⟩ : Below wr.heap.size wr W ∧ wr.heap.size < W.heap.size ∧ W.cell? ⟨wr.heap.size, 0, none⟩ = some (.int .i64 p.1) ∧ W.cell? ⟨wr.heap.size, 1, none⟩ = some (.int .i64 p.2) ∧ W.cell? (a.add (m * 2)) = some (.int .i64 q.1) ∧ W.cell? ⟨(a.add (m * 2)).block, (a.add (m * 2)).off + 1, none⟩ = some (.int .i64 q.2)))
          refine wp_region_held_drew (S := (fun W => Below wr.heap.size wr W ∧ wr.heap.size < W.heap.size ∧ W.cell? ⟨wr.heap.size, 0, none⟩ = some (.int .i64 p.1) ∧ W.cell? ⟨wr.heap.size, 1, none⟩ = some (.int .i64 p.2) ∧ W.cell? (a.add (m * 2)) = some (.int .i64 q.1) ∧ W.cell? ⟨(a.add (m * 2)).block, (a.add (m * 2)).off + 1, none⟩ = some (.int .i64 q.2))) (by kernel_rfl) ?_ (fun hHeld0 => ?_)
          · (try dsimp only); ((refine hS.out _ ?_; (go_split_ands; (repeat' with_reducible apply And.intro) <;> first | with_reducible assumption | ((repeat (first | with_reducible exact Below.refl _ _ | with_reducible assumption | with_reducible refine balloc ?_ _ | with_reducible refine bdrew ?_ | with_reducible refine below_drewN ?_ _ | with_reducible refine bset ?_ ?_ _ | with_reducible exact Nat.le_refl _ | with_reducible refine bsize ?_ | (dsimp only; refine Nat.le_trans ?_ (Nat.le_add_right _ _)) | with_reducible refine Nat.le_trans ?_ (Nat.le_add_right _ _) | (with_reducible refine bstep ?_ (by assumption)))); done) | (simp [go_sem]; done) | go_keep)))
          (refine wpAnyH_take (i := 0) (oi := { dst := some 29, op := Op.move (Operand.tmp 9), type := 3, pos := "l4_camel.go:293", after := #[], guard := none }) (v := ?_) rfl (by kernel_rfl) (by kernel_rfl) (by kernel_rfl) (fun _ _ _ h => h) (Or.inl ⟨by rfl, ?_⟩) (by assumption) ?_; rotate_left; (focus (intro w hSw; (try dsimp only at hSw); go_simp; try with_reducible rfl)); (try simp only [Act.put, List.setIfInBounds_toArray, List.set_cons_zero, List.set_cons_succ]))
          (refine wpAnyH_take (i := 1) (oi := { dst := some 30, op := Op.binOp BinOp.gtr 3 (Operand.tmp 29) (Operand.const (Value.int IntKind.i64 0)) 3, type := 4, pos := "l4_camel.go:293", after := #[{ on := 0, ground := Ground.data }], guard := none }) (v := ?_) rfl (by kernel_rfl) (by kernel_rfl) (by kernel_rfl) (fun _ _ _ h => h) (Or.inl ⟨by rfl, ?_⟩) (by assumption) ?_; rotate_left; (focus (intro w hSw; (try dsimp only at hSw); go_simp; try with_reducible rfl)); (try simp only [Act.put, List.setIfInBounds_toArray, List.set_cons_zero, List.set_cons_succ]))
          (refine wpAnyH_take (i := 2) (oi := { dst := some 31, op := Op.move (Operand.tmp 30), type := 4, pos := "l4_camel.go:293", after := #[{ on := 1, ground := Ground.data }], guard := none }) (v := ?_) rfl (by kernel_rfl) (by kernel_rfl) (by kernel_rfl) (fun _ _ _ h => h) (Or.inl ⟨by rfl, ?_⟩) (by assumption) ?_; rotate_left; (focus (intro w hSw; (try dsimp only at hSw); go_simp; try with_reducible rfl)); (try simp only [Act.put, List.setIfInBounds_toArray, List.set_cons_zero, List.set_cons_succ]))
          (refine wpAnyH_take (i := 3) (oi := { dst := some 32, op := Op.move (Operand.tmp 2), type := 34, pos := "l4_camel.go:293", after := #[{ on := 2, ground := Ground.guard }], guard := some (2, true) }) (v := ?_) rfl (by kernel_rfl) (by kernel_rfl) (by kernel_rfl) (fun _ _ _ h => h) (Or.inl ⟨by rfl, ?_⟩) (by assumption) ?_; rotate_left; (focus (intro w hSw; (try dsimp only at hSw); go_simp; try with_reducible rfl)); (try simp only [Act.put, List.setIfInBounds_toArray, List.set_cons_zero, List.set_cons_succ]))
          (refine wpAnyH_take (i := 4) (oi := { dst := some 33, op := Op.move (Operand.tmp 9), type := 3, pos := "l4_camel.go:293", after := #[{ on := 2, ground := Ground.guard }], guard := some (2, true) }) (v := ?_) rfl (by kernel_rfl) (by kernel_rfl) (by kernel_rfl) (fun _ _ _ h => h) (Or.inl ⟨by rfl, ?_⟩) (by assumption) ?_; rotate_left; (focus (intro w hSw; (try dsimp only at hSw); go_simp; try with_reducible rfl)); (try simp only [Act.put, List.setIfInBounds_toArray, List.set_cons_zero, List.set_cons_succ]))
          (refine wpAnyH_take (i := 5) (oi := { dst := some 34, op := Op.binOp BinOp.sub 3 (Operand.tmp 33) (Operand.const (Value.int IntKind.i64 1)) 3, type := 3, pos := "l4_camel.go:293", after := #[{ on := 4, ground := Ground.data }, { on := 2, ground := Ground.guard }], guard := some (2, true) }) (v := ?_) rfl (by kernel_rfl) (by kernel_rfl) (by kernel_rfl) (fun _ _ _ h => h) (Or.inl ⟨by rfl, ?_⟩) (by assumption) ?_; rotate_left; (focus (intro w hSw; (try dsimp only at hSw); go_simp; try with_reducible rfl)); (try simp only [Act.put, List.setIfInBounds_toArray, List.set_cons_zero, List.set_cons_succ]))
          (refine wpAnyH_take (i := 6) (oi := { dst := some 35, op := Op.indexAddr 34 (Operand.tmp 32) (Operand.tmp 34), type := 0, pos := "l4_camel.go:293", after := #[{ on := 3, ground := Ground.data }, { on := 5, ground := Ground.data }, { on := 2, ground := Ground.guard }], guard := some (2, true) }) (v := ?_) rfl (by kernel_rfl) (by kernel_rfl) (by kernel_rfl) (fun _ _ _ h => h) (Or.inl ⟨by rfl, ?_⟩) (by assumption) ?_; rotate_left; (focus (intro w hSw; (try dsimp only at hSw); go_simp; try with_reducible rfl)); (try simp only [Act.put, List.setIfInBounds_toArray, List.set_cons_zero, List.set_cons_succ]))
          (refine wpAnyH_take (i := 7) (oi := { dst := some 36, op := Op.load 28 (Operand.tmp 35), type := 28, pos := "l4_camel.go:293", after := #[{ on := 6, ground := Ground.data }, { on := 2, ground := Ground.guard }], guard := some (2, true) }) (v := ?_) rfl (by kernel_rfl) (by kernel_rfl) (by kernel_rfl) (fun _ _ _ h => h) (Or.inl ⟨by rfl, ?_⟩) (by assumption) ?_; rotate_left; (focus (intro w hSw; (try dsimp only at hSw); go_simp; try with_reducible rfl)); (try simp only [Act.put, List.setIfInBounds_toArray, List.set_cons_zero, List.set_cons_succ]))
          (refine wpAnyH_take (i := 8) (oi := { dst := some 37, op := Op.load 28 (Operand.tmp 10), type := 28, pos := "l4_camel.go:293", after := #[{ on := 2, ground := Ground.guard }], guard := some (2, true) }) (v := ?_) rfl (by kernel_rfl) (by kernel_rfl) (by kernel_rfl) (fun _ _ _ h => h) (Or.inl ⟨by rfl, ?_⟩) (by assumption) ?_; rotate_left; (focus (intro w hSw; (try dsimp only at hSw); go_simp; try with_reducible rfl)); (try simp only [Act.put, List.setIfInBounds_toArray, List.set_cons_zero, List.set_cons_succ]))
          (refine wpAnyH_ready (rs := [9]) (by kernel_rfl) (by simp) ?_; refine AllReadyH.cons (o := { dst := some 38, op := Op.call { callee := Callee.value (Operand.func 28), args := #[Operand.tmp 36, Operand.tmp 37], argTypes := #[28, 28] }, type := 3, pos := "l4_camel.go:293", after := #[{ on := 7, ground := Ground.data }, { on := 8, ground := Ground.data }, { on := 2, ground := Ground.chain }, { on := 2, ground := Ground.guard }], guard := some (2, true) }) rfl (fun K hK => ?_) AllReadyH.nil; go_simp; (refine (HM.out _).mono ?_; rintro e w3 ⟨rfl, hb3⟩; go_split_ands; (have f5 := bstep (by first | with_reducible assumption | ((repeat (first | with_reducible exact Below.refl _ _ | with_reducible assumption | with_reducible refine balloc ?_ _ | with_reducible refine bdrew ?_ | with_reducible refine below_drewN ?_ _ | with_reducible refine bset ?_ ?_ _ | with_reducible exact Nat.le_refl _ | with_reducible refine bsize ?_ | (dsimp only; refine Nat.le_trans ?_ (Nat.le_add_right _ _)) | with_reducible refine Nat.le_trans ?_ (Nat.le_add_right _ _) | (with_reducible refine bstep ?_ (by assumption)))); done) : Below wr.heap.size wr _) hb3); (have f6 := Nat.lt_of_lt_of_le (show wr.heap.size < _ by with_reducible assumption) hb3.size); (have f7 : w3.cell? ⟨wr.heap.size, 0, none⟩ = some (.int .i64 p.1) := keepa hb3 (by with_reducible assumption) (by with_reducible assumption)); (have f8 : w3.cell? ⟨wr.heap.size, 1, none⟩ = some (.int .i64 p.2) := keepa hb3 (by with_reducible assumption) (by with_reducible assumption))); (first | refine hK.out _ _ ?_ (fun hHeld1 => ?_) | (go_wp2_with fail; refine hK.out _ _ ?_ (fun hHeld1 => ?_))); (focus ((try dsimp only); ((refine hS.out _ ?_; (go_split_ands; (repeat' with_reducible apply And.intro) <;> first | with_reducible assumption | ((repeat (first | with_reducible exact Below.refl _ _ | with_reducible assumption | with_reducible refine balloc ?_ _ | with_reducible refine bdrew ?_ | with_reducible refine below_drewN ?_ _ | with_reducible refine bset ?_ ?_ _ | with_reducible exact Nat.le_refl _ | with_reducible refine bsize ?_ | (dsimp only; refine Nat.le_trans ?_ (Nat.le_add_right _ _)) | with_reducible refine Nat.le_trans ?_ (Nat.le_add_right _ _) | (with_reducible refine bstep ?_ (by assumption)))); done) | (simp [go_sem]; done) | go_keep))))); clear hK K; (try clear hHeld0); (try simp only [Act.put, List.setIfInBounds_toArray, List.set_cons_zero, List.set_cons_succ]))
          (refine wpAnyH_take (i := 10) (oi := { dst := some 39, op := Op.binOp BinOp.geq 3 (Operand.tmp 38) (Operand.const (Value.int IntKind.i64 0)) 3, type := 4, pos := "l4_camel.go:293", after := #[{ on := 9, ground := Ground.data }, { on := 2, ground := Ground.guard }], guard := some (2, true) }) (v := ?_) rfl (by kernel_rfl) (by kernel_rfl) (by kernel_rfl) (fun _ _ _ h => h) (Or.inl ⟨by rfl, ?_⟩) (by assumption) ?_; rotate_left; (focus (intro w hSw; (try dsimp only at hSw); go_simp; try with_reducible rfl)); (try simp only [Act.put, List.setIfInBounds_toArray, List.set_cons_zero, List.set_cons_succ]))
          (refine wpAnyH_take (i := 11) (oi := { dst := some 40, op := Op.pick (Operand.tmp 31) (Operand.tmp 39) (Operand.const (Value.bool false)), type := 4, pos := "l4_camel.go:293", after := #[{ on := 2, ground := Ground.data }, { on := 10, ground := Ground.data }], guard := none }) (v := ?_) rfl (by kernel_rfl) (by kernel_rfl) (by kernel_rfl) (fun _ _ _ h => h) (Or.inl ⟨by rfl, ?_⟩) (by assumption) ?_; rotate_left; (focus (intro w hSw; (try dsimp only at hSw); go_simp; try with_reducible rfl)); (try simp only [Act.put, List.setIfInBounds_toArray, List.set_cons_zero, List.set_cons_succ]))
          refine wpAnyH_done (by kernel_rfl) ?_ _
          all_goals (go_wp2_with fail; go_meet)
          all_goals refine ⟨by rw [HBB.out]; simp [HCM.out], by assumption, by assumption, by assumption, by assumption⟩
      case rest =>
        obtain ⟨rfl, hf, d0, d1, dz⟩ := hcut
        have hbf := bstep hbel hf
        replace c1 := keepa hf (by omega) c1
        replace c2 := keepa hf (by omega) c2
        replace c3 := keepa hf (by omega) c3
        replace c4 := keepa hf (by omega) c4
        replace a1 : w.heap.size + 1 < wc.heap.size := Nat.lt_of_lt_of_le a1 hf.size
        have a0 : w.heap.size < wc.heap.size := by omega
        cases hB : BB
        · have hnx : Hid (∀ j, j + 1 < k + 1 → cmAt l j < 0) := Lib.hid (fun j hj => by
            have e := HBB.out
            rw [hB] at e
            have e2 := of_decide_eq_false e.symm
            by_cases ej : j + 1 = k
            · have : j = k - 1 := by omega
              subst this
              exact Decidable.byContradiction fun hn => e2 ⟨by omega, hn⟩
            · exact hinc.out j (by omega))
          have hown3 := ownsRow_below hown hf
          clear HBB hinc hown hf hL2 e0 e1 hB
          cases hE : eaB L E n d p.1 p.2
          · have HT : Hid (clB L E n d l = false ∧ clL L E n d l = []) := Lib.hid (by
              have eB : clB L E n d l = false := by unfold clB; exact (by have := cl_no (L := L) (E := E) (n := n) (d := d) hp hE; unfold clB at this; exact this)
              exact ⟨eB, by unfold clL; rw [eB]; rfl⟩)
            rw [hE] at HLE
            generalize eaN L E n d p.1 p.2 = N at *
            generalize eaD L E n d p.1 p.2 = V at *
            clear hE hall hp HSU HB hnx
            go_wp2_with fail
            refine (HLE.out _).mono ?_
            rintro e w5 ⟨rfl, hb5⟩
            have hz : Below w.heap.size w w5 := bstep (bstep hbw hbf) hb5
            clear hb5 hbel hbf hbw
            go_wp2
            refine bodyPost_ret (v := .tuple #[.slice none 0 0, .bool false]) (by simp only [results, Try.results19]; go_simp) rfl ?_
            rw [HT.out.1, HT.out.2]
            exact ans_owns rfl ⟨rfl, Or.inl ⟨rfl, rfl⟩⟩ (by (repeat (first | with_reducible exact Below.refl _ _ | with_reducible assumption | with_reducible refine balloc ?_ _ | with_reducible refine bdrew ?_ | with_reducible refine below_drewN ?_ _ | with_reducible refine bset ?_ ?_ _ | with_reducible exact Nat.le_refl _ | with_reducible refine bsize ?_ | (dsimp only; refine Nat.le_trans ?_ (Nat.le_add_right _ _)) | with_reducible refine Nat.le_trans ?_ (Nat.le_add_right _ _) | (with_reducible refine bstep ?_ (by assumption)))))
          · have hnext := Lib.hid (cl_next hp hE hall.out)
            rw [hE] at HLE
            generalize eaN L E n d p.1 p.2 = N at *
            generalize eaD L E n d p.1 p.2 = V at *
            clear hE hall hp HB
            go_wp2_with fail
            refine (HLE.out _).mono ?_
            rintro e w5 ⟨rfl, hb5⟩
            have own3 := ownsRow_below hown3 hb5
            have hb2' : Below w2.heap.size w2 w5 := bstep hbf hb5
            have hsz3 := hb2'.size
            clear hown3 hbel hbf hb5
            go_wp2_with (at_builtin; refine wpList_append_own _ rfl _ _ 34 rfl w2.heap.size 28 i0 (.agg #[.int .i64 0, .int .i64 0]) 2 16 Try.underlying34 hi hz0 hz1 hz2 rfl (by decide) v k (cellsG fAmt ((l.take k).map (clF L E n d))) rfl ?own ⟨_, 0, none⟩ 1 1 [.int .i64 N, .int .i64 V] rfl rfl ?s1 ?s2 ?s3 ?s4 ?s5 ?_)
            case own => (repeat (first | with_reducible assumption | with_reducible refine own_alloc ?_ _ | with_reducible refine own_drew ?_ | with_reducible refine own_set ?_ ?_ _))
            case s1 => first | exact cell_two_new _ _ _ _ | simp [go_sem]
            case s2 => simp [Value.oneCell']
            case s3 => unfold maxLen; omega
            case s4 => omega
            case s5 => first | (simp; done) | (simp; omega)
            intro v' w4 hown' hgrow hnn
            have hown2 : w4.ownsRow w2.heap.size 28 2 v' (k + 1) (cellsG fAmt ((l.take (k + 1)).map (clF L E n d))) := by
              rw [HSU.out, cellsG_snoc]; simpa [fAmt] using hown'
            have bel4 : Below w2.heap.size w2 w4 := by
              refine grown_bel (base := w2.heap.size) (e := 28) (size := 2) (n := k) (xs := cellsG fAmt ((l.take k).map (clF L E n d))) ?_ hgrow (by (repeat (first | with_reducible assumption | with_reducible refine own_alloc ?_ _ | with_reducible refine own_drew ?_ | with_reducible refine own_set ?_ ?_ _))) (Nat.le_refl _)
              (repeat (first | with_reducible exact Below.refl _ _ | with_reducible assumption | with_reducible refine balloc ?_ _ | with_reducible refine bdrew ?_ | with_reducible refine below_drewN ?_ _ | with_reducible refine bset ?_ ?_ _ | with_reducible exact Nat.le_refl _ | with_reducible refine bsize ?_ | (dsimp only; refine Nat.le_trans ?_ (Nat.le_add_right _ _)) | with_reducible refine Nat.le_trans ?_ (Nat.le_add_right _ _) | (with_reducible refine bstep ?_ (by assumption))))
            clear hown' hgrow own3 hb2'
            go_wp2
            go_roundw
            case rel => exact ⟨k + 1, _, rfl, by omega, by go_num, hown2, hnext, hnx, bel4⟩
            case measure => simp [intOf]; omega
        · have HT : Hid (clB L E n d l = false ∧ clL L E n d l = []) := Lib.hid (by
            have eB : clB L E n d l = false := by unfold clB; have e := HBB.out; rw [hB] at e; have e2 := of_decide_eq_true e.symm; have := incB_no l (k - 1) (by omega) e2.2; rw [this]; simp
            exact ⟨eB, by unfold clL; rw [eB]; rfl⟩)
          have hz : Below w.heap.size w wc := bstep hbw hbf
          clear HBB hinc hown hf hL2 e0 e1 hB HB hall HLE
          go_wp2
          refine bodyPost_ret (v := .tuple #[.slice none 0 0, .bool false]) (by simp only [results, Try.results19]; go_simp) rfl ?_
          rw [HT.out.1, HT.out.2]
          exact ans_owns rfl ⟨rfl, Or.inl ⟨rfl, rfl⟩⟩ (by (repeat (first | with_reducible exact Below.refl _ _ | with_reducible assumption | with_reducible refine balloc ?_ _ | with_reducible refine bdrew ?_ | with_reducible refine below_drewN ?_ _ | with_reducible refine bset ?_ ?_ _ | with_reducible exact Nat.le_refl _ | with_reducible refine bsize ?_ | (dsimp only; refine Nat.le_trans ?_ (Nat.le_add_right _ _)) | with_reducible refine Nat.le_trans ?_ (Nat.le_add_right _ _) | (with_reducible refine bstep ?_ (by assumption)))))
    · have hk' : k = l.length := by omega
      subst hk'
      have HT : Hid (clB L E n d l = true ∧ clL L E n d l = l.map (clF L E n d)) := Lib.hid (by
        have e := HB.out
        rw [cl_all hall.out, incB_yes l hinc.out] at e
        exact ⟨e, by unfold clL; rw [e]; rfl⟩)
      clear hall HB hinc
      rw [List.take_length] at hown
      go_wp2
      refine bodyPost_ret (v := .tuple #[v, .bool true]) (by simp only [results, Try.results19]; go_simp) rfl ?_
      rw [HT.out.1, HT.out.2]
      exact ans_owns (by simp) (own_mono hown hbw.size) (bstep hbw hbel)
theorem camps_spec_nil (L E n d : Int) (bn : -9223372036854775808 ≤ n ∧ n ≤ 9223372036854775807) (bd : -9223372036854775808 ≤ d ∧ d ≤ 9223372036854775807) (w : World) :
    Calls Try.prog 19 #[.agg #[.int .i64 L, .int .i64 E], .agg #[.int .i64 n, .int .i64 d], .slice none 0 0] w (AnsG 28 2 fAmt [] (askB L E n d) w) := by
  have HA := Lib.hid (fun W => ask_spec L E n d bn bd W)
  have HC := Lib.hid (fun W => ways_nil W)
  cases h1 : askB L E n d
  · rw [h1] at HA
    clear h1
    go_enter Try.func19, Try.ntmps19
    (go_wp2_with fail; refine (HA.out _).mono ?_; rintro e w1 ⟨rfl, hb1⟩; have ha1 := hb1; obtain ⟨kc1, kf1, kz1, ky1, kx1, kv1, ku1⟩ := bcell hb1)
    go_wp2
    refine bodyPost_ret (v := .tuple #[.slice none 0 0, .bool false]) (by simp only [results, Try.results19]; go_simp) rfl ?_
    exact ans_owns rfl ⟨rfl, Or.inl ⟨rfl, rfl⟩⟩ (by (repeat (first | with_reducible exact Below.refl _ _ | with_reducible assumption | with_reducible refine balloc ?_ _ | with_reducible refine bdrew ?_ | with_reducible refine below_drewN ?_ _ | with_reducible refine bset ?_ ?_ _ | with_reducible exact Nat.le_refl _ | with_reducible refine bsize ?_ | (dsimp only; refine Nat.le_trans ?_ (Nat.le_add_right _ _)) | with_reducible refine Nat.le_trans ?_ (Nat.le_add_right _ _) | (with_reducible refine bstep ?_ (by assumption)))))
  · rw [h1] at HA
    clear h1
    go_enter Try.func19, Try.ntmps19
    (go_wp2_with fail; refine (HA.out _).mono ?_; rintro e w1 ⟨rfl, hb1⟩; have ha1 := hb1; obtain ⟨kc1, kf1, kz1, ky1, kx1, kv1, ku1⟩ := bcell hb1)
    (go_wp2_with fail; refine (HC.out _).mono ?_; rintro e w2 ⟨rfl, hb2⟩; (have ha2 : Below w.heap.size w w2 := by (repeat (first | with_reducible exact Below.refl _ _ | with_reducible assumption | with_reducible refine balloc ?_ _ | with_reducible refine bdrew ?_ | with_reducible refine below_drewN ?_ _ | with_reducible refine bset ?_ ?_ _ | with_reducible exact Nat.le_refl _ | with_reducible refine bsize ?_ | (dsimp only; refine Nat.le_trans ?_ (Nat.le_add_right _ _)) | with_reducible refine Nat.le_trans ?_ (Nat.le_add_right _ _) | (with_reducible refine bstep ?_ (by assumption))))); obtain ⟨kc2, kf2, kz2, ky2, kx2, kv2, ku2⟩ := bcell hb2)
    go_wp2
    go_loopw [8, 24] (fun u i wr => u = .slice none 0 0 ∧ i = .int .i64 0 ∧ wr = w2) (fun _ _ _ => 0)
    case atStart => exact ⟨rfl, rfl, rfl⟩
    case round =>
      obtain ⟨rfl, rfl, rfl⟩ := hrel
      go_wp2
      refine bodyPost_ret (v := .tuple #[.slice none 0 0, .bool true]) (by simp only [results, Try.results19]; go_simp) rfl ?_
      exact ans_owns rfl ⟨rfl, Or.inl ⟨rfl, rfl⟩⟩ (by assumption)
theorem camps_spec_row (L E n d : Int) (bn : -9223372036854775808 ≤ n ∧ n ≤ 9223372036854775807) (bd : -9223372036854775808 ≤ d ∧ d ≤ 9223372036854775807) (v : Value) (l : List (Int × Int)) (w : World) (h : RowG 2 fAmt w v l) :
    Calls Try.prog 19 #[.agg #[.int .i64 L, .int .i64 E], .agg #[.int .i64 n, .int .i64 d], v] w (AnsG 28 2 fAmt (clL L E n d l) (clB L E n d l) w) := by
  rcases h with ⟨rfl, rfl⟩ | ⟨a, cap, rfl, hL⟩
  · have e1 : clB L E n d [] = askB L E n d := by simp [clB, choB, incB]
    have e2 : clL L E n d [] = [] := by unfold clL; split <;> rfl
    rw [e1, e2]
    exact camps_spec_nil L E n d bn bd w
  · exact camps_spec_some L E n d bn bd a cap l w hL
end Go.Proofs.Ytgmgifgbalcngaa

/- The first one with the most: plain facts. -/
namespace Go.Proofs.Ytgmgifgbalcngaa
open Go.ChangeShapes Go.WideShapes Go.ChangeAt Go.RowKit Go.Joins
set_option maxRecDepth 100000
set_option linter.unusedVariables false
set_option linter.unusedSimpArgs false

/-- The best one so far: its index, its amount, and whether there is one. -/
structure BsV where
  i : Int
  n : Int
  d : Int
  f : Bool
section
variable {α : Type} (N V : α → Int) (G : α → Bool)
def bsStep (s : BsV) (k : Int) (p : α) : BsV := if G p = true then (if s.f = false ∨ 0 < cmI (N p) (V p) s.n s.d then ⟨k, N p, V p, true⟩ else s) else s
def bsF : List α → Int → BsV → BsV
  | [], _, s => s
  | p :: l, k, s => bsF l (k + 1) (bsStep N V G s k p)
def bsR (l : List α) : BsV := bsF N V G l 0 ⟨0, 0, 0, false⟩
/-- What is known of the best one so far. -/
structure BsOk (s : BsV) : Prop where
  n0 : 0 ≤ s.n
  n1 : s.n ≤ 1000000000
  d0 : 0 ≤ s.d
  d1 : s.d ≤ 1000000000
  am : s.f = true → amB s.n s.d = true
  no : s.f = false → s = ⟨0, 0, 0, false⟩
  i0 : 0 ≤ s.i
theorem bs_start : BsOk ⟨0, 0, 0, false⟩ := ⟨by simp, by simp, by simp, by simp, fun h => (by cases h), fun _ => rfl, by simp⟩
theorem bs_step {s : BsV} (h : BsOk s) {k : Int} (hk : 0 ≤ k) {p : α} (hg : G p = true → amB (N p) (V p) = true) : BsOk (bsStep N V G s k p) := by
  unfold bsStep
  split
  · next e =>
    split
    · have a := am_of _ _ (hg e)
      exact ⟨a.a, a.b, (by have := a.c; show 0 ≤ V p; omega), a.d, fun _ => hg e, fun h => (by cases h), hk⟩
    · exact h
  · exact h
theorem bs_next {l : List α} {k : Nat} {p : α} {s : BsV} {N V : α → Int} {G : α → Bool} (hp : l[k]? = some p) (h : bsF N V G (l.drop k) k s = bsR N V G l) : bsF N V G (l.drop (k + 1)) ((k + 1 : Nat) : Int) (bsStep N V G s k p) = bsR N V G l := by
  have hk := (List.getElem?_eq_some_iff.1 hp).1
  have e : l.drop k = p :: l.drop (k + 1) := by
    rw [List.drop_eq_getElem_cons hk]
    rw [List.getElem?_eq_getElem hk] at hp
    injection hp with hp
    rw [hp]
  rw [e] at h
  rw [← h]
  show _ = bsF N V G (l.drop (k + 1)) ((k : Int) + 1) (bsStep N V G s k p)
  congr 1
theorem bs_end {l : List α} {s : BsV} {N V : α → Int} {G : α → Bool} (h : bsF N V G (l.drop l.length) l.length s = bsR N V G l) : s = bsR N V G l := by
  rw [List.drop_length] at h
  exact h
theorem bs_no {l : List α} {N V : α → Int} {G : α → Bool} (h : ∀ p, G p = false) : bsR N V G l = ⟨0, 0, 0, false⟩ := by
  unfold bsR
  generalize (0 : Int) = k
  have : ∀ (l : List α) (k : Int) (s : BsV), bsF N V G l k s = s := by
    intro l
    induction l with
    | nil => intro k s; rfl
    | cons a l ih => intro k s; show bsF N V G l (k + 1) (bsStep N V G s k a) = s; rw [ih]; unfold bsStep; rw [h]; rfl
  exact this _ _ _
end
theorem two_am (k : Bool) (x m : Int) (h : twoB k x m = true) : amB (twoN k x m) (twoD k x m) = true := by
  unfold twoB at h
  rw [Bool.and_eq_true] at h
  obtain ⟨h1, h2⟩ := h
  subst h1
  rw [(two_yes _ _).1, (two_yes _ _).2.1]
  exact amB_low _ _ h2
end Go.Proofs.Ytgmgifgbalcngaa

/- Camels: OneStop of the program. -/
namespace Go.Proofs.Ytgmgifgbalcngaa
open Go.ChangeShapes Go.WideShapes Go.ChangeAt Go.RowKit Go.Joins
set_option maxRecDepth 100000
set_option linter.unusedVariables false
set_option linter.unusedSimpArgs false

def osK (L E n d p q r s : Int) : Bool := ((askB L E n d && plB p q) && plB r s) && decide (p * s ≤ r * q)
def osX (L E n d p q r s : Int) : Int := osB L E n d p q r s
def osM (L E n d p q r s : Int) : Int := d * q * s
theorem brought_m (L E M l x y z : Int) (hl : L * M = l) (h1 : 1 ≤ l) (h2 : l ≤ 1000000000000000000) (h3 : x ≤ 6 * l) (h4 : -4000000000000000000 ≤ x) (h5 : 0 ≤ y) (h6 : y ≤ 200000000000000000) (hz : x - y * (2 * (trp l x : Int) - 1) = z) (h7 : -9000000000000000000 ≤ z) (w : World) :
    Calls Try.prog 75 #[.agg #[.int .i64 L, .int .i64 E, .int .i64 M], .int .i64 x, .int .i64 y] w fun e w' => e = .returned (.int .i64 z) ∧ Below w.heap.size w w' := by
  have HD := Lib.hid (fun W => drives_m L E M l x hl h1 h2 h3 h4 W)
  have hb := trp_bd l x
  obtain ⟨D, hD⟩ : ∃ D, 2 * (trp l x : Int) - 1 = D := ⟨_, rfl⟩
  rw [hD] at HD hz
  have hD1 : 1 ≤ D := by omega
  have hD2 : D ≤ 13 := by omega
  have m := mul_le2 y D 200000000000000000 13 h5 h6 (by omega) hD2
  obtain ⟨m1, m2⟩ := m
  clear hD hb
  have h8 : x ≤ 6000000000000000000 := by omega
  clear hl h1 h2 h3
  subst hz
  go_enter Try.func75, Try.ntmps75
  (go_wp2_with fail; refine (HD.out _).mono ?_; rintro e w1 ⟨rfl, hb1⟩; have ha1 := hb1; obtain ⟨kc1, kf1, kz1, ky1, kx1, kv1, ku1⟩ := bcell hb1)
  go_wp2
  go_ret
  refine ⟨rfl, ?_⟩
  (repeat (first | with_reducible exact Below.refl _ _ | with_reducible assumption | with_reducible refine balloc ?_ _ | with_reducible refine bdrew ?_ | with_reducible refine below_drewN ?_ _ | with_reducible refine bset ?_ ?_ _ | with_reducible exact Nat.le_refl _ | with_reducible refine bsize ?_ | (dsimp only; refine Nat.le_trans ?_ (Nat.le_add_right _ _)) | with_reducible refine Nat.le_trans ?_ (Nat.le_add_right _ _) | (with_reducible refine bstep ?_ (by assumption))))
/-- The variables of oneStop: goods, stop, way, the measure, the result. -/
structure OsSt (w W : World) (L E M n d p q r s : Int) : Prop where
  g0 : W.cell? ⟨w.heap.size + 1, 0, none⟩ = some (.int .i64 n)
  g1 : W.cell? ⟨w.heap.size + 1, 1, none⟩ = some (.int .i64 d)
  p0 : W.cell? ⟨w.heap.size + 1 + 1, 0, none⟩ = some (.int .i64 p)
  p1 : W.cell? ⟨w.heap.size + 1 + 1, 1, none⟩ = some (.int .i64 q)
  s0 : W.cell? ⟨w.heap.size + 1 + 1 + 1, 0, none⟩ = some (.int .i64 r)
  s1 : W.cell? ⟨w.heap.size + 1 + 1 + 1, 1, none⟩ = some (.int .i64 s)
  m0 : W.cell? ⟨w.heap.size + 1 + 1 + 1 + 1 + 1, 0, none⟩ = some (.int .i64 L)
  m1 : W.cell? ⟨w.heap.size + 1 + 1 + 1 + 1 + 1, 1, none⟩ = some (.int .i64 E)
  m2 : W.cell? ⟨w.heap.size + 1 + 1 + 1 + 1 + 1, 2, none⟩ = some (.int .i64 M)
  res : HasRes (w.heap.size + 1 + 1 + 1 + 1) W
  hs : w.heap.size + 1 + 1 + 1 + 1 + 1 < W.heap.size
  bel : Below w.heap.size w W
theorem OsSt.later {w W W' : World} {L E M n d p q r s : Int} (H : OsSt w W L E M n d p q r s) (hb : Below W.heap.size W W') : OsSt w W' L E M n d p q r s := by
  obtain ⟨g0, g1, p0, p1, s0, s1, m0, m1, m2, res, hs, bel⟩ := H
  exact ⟨keepa hb (by omega) g0, keepa hb (by omega) g1, keepa hb (by omega) p0, keepa hb (by omega) p1, keepa hb (by omega) s0, keepa hb (by omega) s1, keepa hb hs m0, keepa hb hs m1, keepa hb hs m2, res.later hb, Nat.lt_of_lt_of_le hs hb.size, bstep bel hb⟩
theorem OsSt.drew {w W : World} {L E M n d p q r s : Int} (H : OsSt w W L E M n d p q r s) : OsSt w W.drew L E M n d p q r s := H.later (bdrew (Below.refl _ _))
theorem OsSt.set {w W : World} {L E M n d p q r s : Int} (H : OsSt w W L E M n d p q r s) (u v : Value) : OsSt w ((W.setCell ⟨w.heap.size + 1 + 1 + 1 + 1, 0, none⟩ u).setCell ⟨w.heap.size + 1 + 1 + 1 + 1, 1, none⟩ v) L E M n d p q r s := by
  obtain ⟨g0, g1, p0, p1, s0, s1, m0, m1, m2, res, hs, bel⟩ := H
  exact ⟨by simp [go_sem, g0], by simp [go_sem, g1], by simp [go_sem, p0], by simp [go_sem, p1], by simp [go_sem, s0], by simp [go_sem, s1], by simp [go_sem, m0], by simp [go_sem, m1], by simp [go_sem, m2], (res.set 0 _ (by omega)).set 1 _ (by omega), by simpa using hs, bset (bset bel (by simp; omega) _) (by simp; omega) _⟩
structure OsB (L E n d p q r s M l x yb yw A B : Int) : Prop where
  eM : M = d * (q * s)
  eM1 : M = q * (d * s)
  eM2 : M = s * (d * q)
  el : L * M = l
  M1 : 1 ≤ M
  M2 : M ≤ 12000000000000
  dq0 : 1 ≤ d * q
  dq1 : d * q ≤ 12000000
  l1 : 1 ≤ l
  l2 : l ≤ 144000000000000
  x0 : 0 ≤ x
  x1 : x ≤ 864000000000000
  x6 : x ≤ 6 * l
  y0 : 0 ≤ yb
  y1 : yb ≤ 144000000000000000
  z0 : 0 ≤ yw
  z1 : yw ≤ 144000000000000000
  u0 : 0 ≤ d * s * p
  u1 : d * s * p ≤ 12000000000000000
  v0 : 0 ≤ d * q * r
  v1 : d * q * r ≤ 12000000000000000
  a0 : -1872000000000000000 ≤ A
  a1 : A ≤ x
  b0 : yb ≤ yw → -3744000000000000000 ≤ B
  b1 : yb ≤ yw → B ≤ A
theorem os_b (L E n d p q r s : Int) (hL : 1 ≤ L) (hL2 : L ≤ 12) (hE : 1 ≤ E) (hE2 : E ≤ 12) (hn : 0 ≤ n) (hd : 1 ≤ d) (hd2 : d ≤ 12) (hn6 : n ≤ 6 * L * d) (hp : 0 ≤ p) (hp2 : p ≤ 1000000000) (hq : 1 ≤ q) (hq2 : q ≤ 1000000) (hr : 0 ≤ r) (hr2 : r ≤ 1000000000) (hs : 1 ≤ s) (hs2 : s ≤ 1000000) : OsB L E n d p q r s (d * q * s) (L * (d * q * s)) (q * s * n) (d * s * p * E) (d * q * r * E) (osA L E n d p q s) (osB L E n d p q r s) := by
  have c1 := mul_le2 d q 12 1000000 (by omega) hd2 (by omega) hq2
  have c1' := Int.mul_pos (show 0 < d by omega) (show 0 < q by omega)
  have c2 := mul_le2 (d * q) s 12000000 1000000 (by omega) (by omega) (by omega) hs2
  have c2' := Int.mul_pos c1' (show 0 < s by omega)
  have c3 := mul_le2 L (d * q * s) 12 12000000000000 (by omega) hL2 (by omega) (by omega)
  have c3' := Int.mul_pos (show 0 < L by omega) c2'
  have c4 := mul_le2 q s 1000000 1000000 (by omega) hq2 (by omega) hs2
  have e6 : 6 * L * d = 6 * (L * d) := Int.mul_assoc _ _ _
  have c5 := mul_le2 L d 12 12 (by omega) hL2 (by omega) hd2
  have c6 := mul_le2 (q * s) n 1000000000000 864 c4.1 (by omega) hn (by omega)
  have c7 := mul_le2 d s 12 1000000 (by omega) hd2 (by omega) hs2
  have c8 := mul_le2 (d * s) p 12000000 1000000000 c7.1 (by omega) hp hp2
  have c9 := mul_le2 (d * s * p) E 12000000000000000 12 c8.1 (by omega) (by omega) hE2
  have d8 := mul_le2 (d * q) r 12000000 1000000000 (by omega) (by omega) hr hr2
  have d9 := mul_le2 (d * q * r) E 12000000000000000 12 d8.1 (by omega) (by omega) hE2
  have x6 : q * s * n ≤ 6 * (L * (d * q * s)) := by
    have h1 := Int.mul_le_mul_of_nonneg_left hn6 c4.1
    have h2 : q * s * (6 * L * d) = 6 * (L * (d * q * s)) := by ac_rfl
    omega
  have t1 := trp_bd (L * (d * q * s)) (q * s * n)
  have t2 := trp_bd (L * (d * q * s)) (osA L E n d p q s)
  have k1 := mul_le2 (d * s * p * E) (2 * (trp (L * (d * q * s)) (q * s * n) : Int) - 1) 144000000000000000 13 c9.1 (by omega) (by omega) (by omega)
  have hA : osA L E n d p q s = q * s * n - d * s * p * E * (2 * (trp (L * (d * q * s)) (q * s * n) : Int) - 1) := rfl
  have hB : osB L E n d p q r s = osA L E n d p q s - (d * q * r * E - d * s * p * E) * (2 * (trp (L * (d * q * s)) (osA L E n d p q s) : Int) - 1) := rfl
  refine ⟨Int.mul_assoc _ _ _, by ac_rfl, by ac_rfl, rfl, by omega, by omega, by omega, by omega, by omega, by omega, c6.1, by omega, x6, c9.1, by omega, d9.1, by omega, c8.1, by omega, d8.1, by omega, by omega, by omega, fun h => ?_, fun h => ?_⟩
  · have k2 := mul_le2 (d * q * r * E - d * s * p * E) (2 * (trp (L * (d * q * s)) (osA L E n d p q s) : Int) - 1) 144000000000000000 13 (by omega) (by omega) (by omega) (by omega)
    omega
  · have k2 := mul_le2 (d * q * r * E - d * s * p * E) (2 * (trp (L * (d * q * s)) (osA L E n d p q s) : Int) - 1) 144000000000000000 13 (by omega) (by omega) (by omega) (by omega)
    omega
set_option maxHeartbeats 3200000 in
theorem oneStop_m (L E n d p q r s : Int) (hL : 1 ≤ L) (hL2 : L ≤ 12) (hE : 1 ≤ E) (hE2 : E ≤ 12) (hn : 0 ≤ n) (hd : 1 ≤ d) (hd2 : d ≤ 12) (hn6 : n ≤ 6 * L * d) (hp : 0 ≤ p) (hp2 : p ≤ 1000000000) (hq : 1 ≤ q) (hq2 : q ≤ 1000000) (hr : 0 ≤ r) (hr2 : r ≤ 1000000000) (hs : 1 ≤ s) (hs2 : s ≤ 1000000) (w : World) :
    Calls Try.prog 58 #[.agg #[.int .i64 L, .int .i64 E], .agg #[.int .i64 n, .int .i64 d], .agg #[.int .i64 p, .int .i64 q], .agg #[.int .i64 r, .int .i64 s]] w fun e w' => e = .returned (.tuple #[.agg #[.int .i64 (twoN (decide (d * s * p * E ≤ d * q * r * E)) (osB L E n d p q r s) (d * q * s)), .int .i64 (twoD (decide (d * s * p * E ≤ d * q * r * E)) (osB L E n d p q r s) (d * q * s))], .bool (twoB (decide (d * s * p * E ≤ d * q * r * E)) (osB L E n d p q r s) (d * q * s))]) ∧ Below w.heap.size w w' := by
  have B := os_b L E n d p q r s hL hL2 hE hE2 hn hd hd2 hn6 hp hp2 hq hq2 hr hr2 hs hs2
  have hA : q * s * n - d * s * p * E * (2 * (trp (L * (d * q * s)) (q * s * n) : Int) - 1) = osA L E n d p q s := rfl
  have hB : osA L E n d p q s - (d * q * r * E - d * s * p * E) * (2 * (trp (L * (d * q * s)) (osA L E n d p q s) : Int) - 1) = osB L E n d p q r s := rfl
  have C1 := Lib.hid (fun W => paces_impl L E (d * q * s) p q (d * s) B.eM1 hq (Int.mul_nonneg (by omega) (by omega)) (by have := B.M2; omega) B.u0 (by have := B.u1; omega) B.y0 (by have := B.y1; omega) W)
  have C2 := Lib.hid (fun W => paces_impl L E (d * q * s) r s (d * q) B.eM2 hs (by have := B.dq0; omega) (by have := B.M2; omega) B.v0 (by have := B.v1; omega) B.z0 (by have := B.z1; omega) W)
  have C3 := Lib.hid (fun W => crumbs_impl L E (d * q * s) n d (q * s) B.eM hd (Int.mul_nonneg (by omega) (by omega)) (by have := B.M2; omega) B.x0 (by have := B.x1; omega) W)
  have C4 := Lib.hid (fun W => brought_m L E (d * q * s) (L * (d * q * s)) (q * s * n) (d * s * p * E) (osA L E n d p q s) B.el B.l1 (by have := B.l2; omega) B.x6 (by have := B.x0; omega) B.y0 (by have := B.y1; omega) hA (by have := B.a0; omega) W)
  have C5 := Lib.hid (fun (hh : d * s * p * E ≤ d * q * r * E) W => brought_m L E (d * q * s) (L * (d * q * s)) (osA L E n d p q s) (d * q * r * E - d * s * p * E) (osB L E n d p q r s) B.el B.l1 (by have := B.l2; omega) (by have := B.x6; have := B.a1; omega) (by have := B.a0; omega) (by omega) (by have := B.z1; have := B.y0; omega) hB (by have := B.b0 hh; omega) W)
  have C6 := Lib.hid (fun (hh : d * s * p * E ≤ d * q * r * E) W => goods_impl L E (d * q * s) (osB L E n d p q r s) (by have := B.b1 hh; have := B.a1; have := B.x1; omega) (by have := B.M2; omega) W)
  obtain ⟨-, -, -, -, M1, M2, dq0, dq1, -, -, x0, x1, -, y0, y1, z0, z1, -, -, -, -, a0, a1, -, -⟩ := B
  clear hA hB
  have wM : IntKind.i64.wrap (d * q * s) = d * q * s := IntWalk.i64_in _ (by omega)
  have wd : IntKind.i64.wrap (d * q) = d * q := IntWalk.i64_in _ (by omega)
  by_cases hc : d * s * p * E ≤ d * q * r * E
  · rw [decide_eq_true hc, (two_yes _ _).1, (two_yes _ _).2.1, (two_yes _ _).2.2]
    have C5' := Lib.hid (C5.out hc)
    have C6' := Lib.hid (C6.out hc)
    clear C5 C6
    generalize hM : d * q * s = M at *
    have HM := Lib.hid hM
    clear hM
    generalize osB L E n d p q r s = Bz at *
    generalize osA L E n d p q s = Az at *
    generalize d * s * p * E = yb at *
    generalize d * q * r * E = yw at *
    generalize q * s * n = x at *
    have hyw : 0 ≤ yw - yb := by omega
    have wq1 : IntKind.i64.wrap (yw - yb) = yw - yb := IntWalk.i64_in _ (by omega)
    have wM' : IntKind.i64.wrap (d * q * s) = M := by rw [HM.out]; exact wM
    clear wM
    go_enter Try.func58, Try.ntmps58
    go_upto_region 2 with fail
    change Code.wp _ _ _ _ ((((((w.alloc (.cells #[.int .i64 L, .int .i64 E] 31)).alloc (.cells #[.int .i64 n, .int .i64 d] 28)).alloc (.cells #[.int .i64 p, .int .i64 q] 28)).alloc (.cells #[.int .i64 r, .int .i64 s] 28)).alloc (.cells #[.int .i64 0, .int .i64 0] 28)).alloc (.cells #[.int .i64 L, .int .i64 E, .int .i64 M] 102))
    have hO : OsSt w ((((((w.alloc (.cells #[.int .i64 L, .int .i64 E] 31)).alloc (.cells #[.int .i64 n, .int .i64 d] 28)).alloc (.cells #[.int .i64 p, .int .i64 q] 28)).alloc (.cells #[.int .i64 r, .int .i64 s] 28)).alloc (.cells #[.int .i64 0, .int .i64 0] 28)).alloc (.cells #[.int .i64 L, .int .i64 E, .int .i64 M] 102)) L E M n d p q r s :=
      ⟨by simp [go_sem], by simp [go_sem], by simp [go_sem], by simp [go_sem], by simp [go_sem], by simp [go_sem], by simp [go_sem], by simp [go_sem], by simp [go_sem], ⟨.int .i64 0, .int .i64 0, by simp [go_sem], by simp [go_sem], by simp [go_sem], by simp [go_sem], by simp⟩, by simp, by (repeat (first | with_reducible exact Below.refl _ _ | with_reducible assumption | with_reducible refine balloc ?_ _ | with_reducible refine bdrew ?_ | with_reducible refine below_drewN ?_ _ | with_reducible refine bset ?_ ?_ _ | with_reducible exact Nat.le_refl _ | with_reducible refine bsize ?_ | (dsimp only; refine Nat.le_trans ?_ (Nat.le_add_right _ _)) | with_reducible refine Nat.le_trans ?_ (Nat.le_add_right _ _) | (with_reducible refine bstep ?_ (by assumption))))⟩
    clear wM' wd
    generalize ((((((w.alloc (.cells #[.int .i64 L, .int .i64 E] 31)).alloc (.cells #[.int .i64 n, .int .i64 d] 28)).alloc (.cells #[.int .i64 p, .int .i64 q] 28)).alloc (.cells #[.int .i64 r, .int .i64 s] 28)).alloc (.cells #[.int .i64 0, .int .i64 0] 28)).alloc (.cells #[.int .i64 L, .int .i64 E, .int .i64 M] 102)) = V at *
    have hOo := hO
    obtain ⟨ca1, ca2, ca3, ca4, ca5, ca6, ca7, ca8, ca9, car, cah, cab⟩ := hOo
    go_wp2_with fail
    refine (C1.out _).mono ?_
    rintro e w1 ⟨rfl, hb1⟩
    have hO1 := hO.later (bstep (by (repeat (first | with_reducible exact Below.refl _ _ | with_reducible assumption | with_reducible refine balloc ?_ _ | with_reducible refine bdrew ?_ | with_reducible refine below_drewN ?_ _ | with_reducible refine bset ?_ ?_ _ | with_reducible exact Nat.le_refl _ | with_reducible refine bsize ?_ | (dsimp only; refine Nat.le_trans ?_ (Nat.le_add_right _ _)) | with_reducible refine Nat.le_trans ?_ (Nat.le_add_right _ _) | (with_reducible refine bstep ?_ (by assumption))))) hb1)
    clear hb1 hO ca1 ca2 ca3 ca4 ca5 ca6 ca7 ca8 ca9 car cah cab
    have hOo := hO1
    obtain ⟨cz1, cz2, cz3, cz4, cz5, cz6, cz7, cz8, cz9, czr, czh, czb⟩ := hOo
    go_wp2_with fail
    refine (C2.out _).mono ?_
    rintro e w2 ⟨rfl, hb2⟩
    have hO2 := hO1.later (bstep (by (repeat (first | with_reducible exact Below.refl _ _ | with_reducible assumption | with_reducible refine balloc ?_ _ | with_reducible refine bdrew ?_ | with_reducible refine below_drewN ?_ _ | with_reducible refine bset ?_ ?_ _ | with_reducible exact Nat.le_refl _ | with_reducible refine bsize ?_ | (dsimp only; refine Nat.le_trans ?_ (Nat.le_add_right _ _)) | with_reducible refine Nat.le_trans ?_ (Nat.le_add_right _ _) | (with_reducible refine bstep ?_ (by assumption))))) hb2)
    clear hb2 hO1
    clear cz1 cz2 cz3 cz4 cz5 cz6 cz7 cz8 cz9 czr czh czb
    have hOo := hO2
    obtain ⟨ck1, ck2, ck3, ck4, ck5, ck6, ck7, ck8, ck9, ckr, ckh, ckb⟩ := hOo
    go_upto_region 6 with fail
    have hS := Lib.hid (fun (W : World) (h : OsSt w W L E M n d p q r s) => (⟨h.g0, h.g1, h.m0, h.m1, h.m2⟩ : W.cell? ⟨w.heap.size + 1, 0, none⟩ = some (.int .i64 n) ∧ W.cell? ⟨w.heap.size + 1, 1, none⟩ = some (.int .i64 d) ∧ W.cell? ⟨w.heap.size + 1 + 1 + 1 + 1 + 1, 0, none⟩ = some (.int .i64 L) ∧ W.cell? ⟨w.heap.size + 1 + 1 + 1 + 1 + 1, 1, none⟩ = some (.int .i64 E) ∧ W.cell? ⟨w.heap.size + 1 + 1 + 1 + 1 + 1, 2, none⟩ = some (.int .i64 M)))
    go_region_held3 (fun W => W.cell? ⟨w.heap.size + 1, 0, none⟩ = some (.int .i64 n) ∧ W.cell? ⟨w.heap.size + 1, 1, none⟩ = some (.int .i64 d) ∧ W.cell? ⟨w.heap.size + 1 + 1 + 1 + 1 + 1, 0, none⟩ = some (.int .i64 L) ∧ W.cell? ⟨w.heap.size + 1 + 1 + 1 + 1 + 1, 1, none⟩ = some (.int .i64 E) ∧ W.cell? ⟨w.heap.size + 1 + 1 + 1 + 1 + 1, 2, none⟩ = some (.int .i64 M))
      ((refine hS.out _ ?_; first | with_reducible assumption | with_reducible exact OsSt.drew (by with_reducible assumption) | with_reducible exact OsSt.set (by with_reducible assumption) _ _ | with_reducible exact OsSt.drew (OsSt.set (by with_reducible assumption) _ _)))
      (first | (go_at_call 76; refine (C3.out _).mono ?_; rintro e w3 ⟨rfl, hb3⟩; (have hO3 := hO2.later (bstep (by (repeat (first | with_reducible exact Below.refl _ _ | with_reducible assumption | with_reducible refine balloc ?_ _ | with_reducible refine bdrew ?_ | with_reducible refine below_drewN ?_ _ | with_reducible refine bset ?_ ?_ _ | with_reducible exact Nat.le_refl _ | with_reducible refine bsize ?_ | (dsimp only; refine Nat.le_trans ?_ (Nat.le_add_right _ _)) | with_reducible refine Nat.le_trans ?_ (Nat.le_add_right _ _) | (with_reducible refine bstep ?_ (by assumption))))) hb3))) | (go_at_call 74; refine (C6'.out _).mono ?_; rintro e w6 ⟨rfl, hb6⟩; (have hO6 := hO5.later (bstep (by (repeat (first | with_reducible exact Below.refl _ _ | with_reducible assumption | with_reducible refine balloc ?_ _ | with_reducible refine bdrew ?_ | with_reducible refine below_drewN ?_ _ | with_reducible refine bset ?_ ?_ _ | with_reducible exact Nat.le_refl _ | with_reducible refine bsize ?_ | (dsimp only; refine Nat.le_trans ?_ (Nat.le_add_right _ _)) | with_reducible refine Nat.le_trans ?_ (Nat.le_add_right _ _) | (with_reducible refine bstep ?_ (by assumption))))) hb6)); (obtain ⟨rx, ry, q1, q2, q3, q4, q5⟩ := hO6.res)) | (go_at_call 75; with_reducible refine (C4.out _).mono ?_; rintro e w4 ⟨rfl, hb4⟩; (have hO4 := hO3.later (bstep (by (repeat (first | with_reducible exact Below.refl _ _ | with_reducible assumption | with_reducible refine balloc ?_ _ | with_reducible refine bdrew ?_ | with_reducible refine below_drewN ?_ _ | with_reducible refine bset ?_ ?_ _ | with_reducible exact Nat.le_refl _ | with_reducible refine bsize ?_ | (dsimp only; refine Nat.le_trans ?_ (Nat.le_add_right _ _)) | with_reducible refine Nat.le_trans ?_ (Nat.le_add_right _ _) | (with_reducible refine bstep ?_ (by assumption))))) hb4))) | (go_at_call 75; with_reducible refine (C5'.out _).mono ?_; rintro e w5 ⟨rfl, hb5⟩; (have hO5 := hO4.later (bstep (by (repeat (first | with_reducible exact Below.refl _ _ | with_reducible assumption | with_reducible refine balloc ?_ _ | with_reducible refine bdrew ?_ | with_reducible refine below_drewN ?_ _ | with_reducible refine bset ?_ ?_ _ | with_reducible exact Nat.le_refl _ | with_reducible refine bsize ?_ | (dsimp only; refine Nat.le_trans ?_ (Nat.le_add_right _ _)) | with_reducible refine Nat.le_trans ?_ (Nat.le_add_right _ _) | (with_reducible refine bstep ?_ (by assumption))))) hb5))))
    all_goals go_wp2
    all_goals refine bodyPost_ret (v := .tuple #[.agg #[.int .i64 (lowN Bz M), .int .i64 (lowD Bz M)], .bool (lowB Bz M)]) (by simp only [results, Try.results58]; go_simp) rfl ⟨rfl, ?_⟩
    all_goals exact (OsSt.set hO6 _ _).bel
  · rw [decide_eq_false hc, (two_no _ _).1, (two_no _ _).2.1, (two_no _ _).2.2]
    clear C5 C6
    generalize hM : d * q * s = M at *
    have HM := Lib.hid hM
    clear hM
    generalize osB L E n d p q r s = Bz at *
    generalize osA L E n d p q s = Az at *
    generalize d * s * p * E = yb at *
    generalize d * q * r * E = yw at *
    generalize q * s * n = x at *
    have hyw : yw - yb < 0 := by omega
    have wq1 : IntKind.i64.wrap (yw - yb) = yw - yb := IntWalk.i64_in _ (by omega)
    have wM' : IntKind.i64.wrap (d * q * s) = M := by rw [HM.out]; exact wM
    clear wM
    go_enter Try.func58, Try.ntmps58
    go_upto_region 2 with fail
    change Code.wp _ _ _ _ ((((((w.alloc (.cells #[.int .i64 L, .int .i64 E] 31)).alloc (.cells #[.int .i64 n, .int .i64 d] 28)).alloc (.cells #[.int .i64 p, .int .i64 q] 28)).alloc (.cells #[.int .i64 r, .int .i64 s] 28)).alloc (.cells #[.int .i64 0, .int .i64 0] 28)).alloc (.cells #[.int .i64 L, .int .i64 E, .int .i64 M] 102))
    have hO : OsSt w ((((((w.alloc (.cells #[.int .i64 L, .int .i64 E] 31)).alloc (.cells #[.int .i64 n, .int .i64 d] 28)).alloc (.cells #[.int .i64 p, .int .i64 q] 28)).alloc (.cells #[.int .i64 r, .int .i64 s] 28)).alloc (.cells #[.int .i64 0, .int .i64 0] 28)).alloc (.cells #[.int .i64 L, .int .i64 E, .int .i64 M] 102)) L E M n d p q r s :=
      ⟨by simp [go_sem], by simp [go_sem], by simp [go_sem], by simp [go_sem], by simp [go_sem], by simp [go_sem], by simp [go_sem], by simp [go_sem], by simp [go_sem], ⟨.int .i64 0, .int .i64 0, by simp [go_sem], by simp [go_sem], by simp [go_sem], by simp [go_sem], by simp⟩, by simp, by (repeat (first | with_reducible exact Below.refl _ _ | with_reducible assumption | with_reducible refine balloc ?_ _ | with_reducible refine bdrew ?_ | with_reducible refine below_drewN ?_ _ | with_reducible refine bset ?_ ?_ _ | with_reducible exact Nat.le_refl _ | with_reducible refine bsize ?_ | (dsimp only; refine Nat.le_trans ?_ (Nat.le_add_right _ _)) | with_reducible refine Nat.le_trans ?_ (Nat.le_add_right _ _) | (with_reducible refine bstep ?_ (by assumption))))⟩
    clear wM' wd
    generalize ((((((w.alloc (.cells #[.int .i64 L, .int .i64 E] 31)).alloc (.cells #[.int .i64 n, .int .i64 d] 28)).alloc (.cells #[.int .i64 p, .int .i64 q] 28)).alloc (.cells #[.int .i64 r, .int .i64 s] 28)).alloc (.cells #[.int .i64 0, .int .i64 0] 28)).alloc (.cells #[.int .i64 L, .int .i64 E, .int .i64 M] 102)) = V at *
    have hOo := hO
    obtain ⟨ca1, ca2, ca3, ca4, ca5, ca6, ca7, ca8, ca9, car, cah, cab⟩ := hOo
    go_wp2_with fail
    refine (C1.out _).mono ?_
    rintro e w1 ⟨rfl, hb1⟩
    have hO1 := hO.later (bstep (by (repeat (first | with_reducible exact Below.refl _ _ | with_reducible assumption | with_reducible refine balloc ?_ _ | with_reducible refine bdrew ?_ | with_reducible refine below_drewN ?_ _ | with_reducible refine bset ?_ ?_ _ | with_reducible exact Nat.le_refl _ | with_reducible refine bsize ?_ | (dsimp only; refine Nat.le_trans ?_ (Nat.le_add_right _ _)) | with_reducible refine Nat.le_trans ?_ (Nat.le_add_right _ _) | (with_reducible refine bstep ?_ (by assumption))))) hb1)
    clear hb1 hO ca1 ca2 ca3 ca4 ca5 ca6 ca7 ca8 ca9 car cah cab
    have hOo := hO1
    obtain ⟨cz1, cz2, cz3, cz4, cz5, cz6, cz7, cz8, cz9, czr, czh, czb⟩ := hOo
    go_wp2_with fail
    refine (C2.out _).mono ?_
    rintro e w2 ⟨rfl, hb2⟩
    have hO2 := hO1.later (bstep (by (repeat (first | with_reducible exact Below.refl _ _ | with_reducible assumption | with_reducible refine balloc ?_ _ | with_reducible refine bdrew ?_ | with_reducible refine below_drewN ?_ _ | with_reducible refine bset ?_ ?_ _ | with_reducible exact Nat.le_refl _ | with_reducible refine bsize ?_ | (dsimp only; refine Nat.le_trans ?_ (Nat.le_add_right _ _)) | with_reducible refine Nat.le_trans ?_ (Nat.le_add_right _ _) | (with_reducible refine bstep ?_ (by assumption))))) hb2)
    clear hb2 hO1
    clear cz1 cz2 cz3 cz4 cz5 cz6 cz7 cz8 cz9 czr czh czb
    have hOo := hO2
    obtain ⟨ck1, ck2, ck3, ck4, ck5, ck6, ck7, ck8, ck9, ckr, ckh, ckb⟩ := hOo
    obtain ⟨rx, ry, q1, q2, q3, q4, q5⟩ := ckr
    go_wp2
    refine bodyPost_ret (v := .tuple #[.agg #[.int .i64 0, .int .i64 0], .bool false]) (by simp only [results, Try.results58]; go_simp) rfl ⟨rfl, ?_⟩
    (repeat (first | with_reducible exact Below.refl _ _ | with_reducible assumption | with_reducible refine balloc ?_ _ | with_reducible refine bdrew ?_ | with_reducible refine below_drewN ?_ _ | with_reducible refine bset ?_ ?_ _ | with_reducible exact Nat.le_refl _ | with_reducible refine bsize ?_ | (dsimp only; refine Nat.le_trans ?_ (Nat.le_add_right _ _)) | with_reducible refine Nat.le_trans ?_ (Nat.le_add_right _ _) | (with_reducible refine bstep ?_ (by assumption))))
end Go.Proofs.Ytgmgifgbalcngaa

/- Camels: WayWith of the model. -/
namespace Go.Proofs.Ytgmgifgbalcngaa
open Go.ChangeShapes Go.WideShapes Go.ChangeAt Go.RowKit Go.Joins
set_option maxRecDepth 100000
set_option linter.unusedVariables false
set_option linter.unusedSimpArgs false

theorem sg_le (x : Int) (h : x ≤ 0) : sgI x ≤ 0 ∧ -1 ≤ sgI x := by unfold sgI; split <;> (try split) <;> omega
theorem sg_gt (x : Int) (h : 0 < x) : sgI x = 1 := by unfold sgI; rw [if_pos h]
theorem way_no {L E d n : Int} {t : Nat} (h : CamIn L E d n t) (p q : Int) (hq : 1 ≤ q) (hp : n * q < p * d) : twoN (wayWithK L E n d p q) (wayWithX L E n d p q) (wayWithM L E n d p q) = 0 ∧ twoD (wayWithK L E n d p q) (wayWithX L E n d p q) (wayWithM L E n d p q) = 0 ∧ twoB (wayWithK L E n d p q) (wayWithX L E n d p q) (wayWithM L E n d p q) = false := by
  by_cases h6 : d * p ≤ 6 * (L * (d * q))
  · obtain ⟨z1, z2, z3⟩ := low_neg _ (wayWithM L E n d p q) (way_more h p q hq hp h6)
    cases hk : wayWithK L E n d p q
    · exact two_no _ _
    · rw [(two_yes _ _).1, (two_yes _ _).2.1, (two_yes _ _).2.2]; exact ⟨z2, z3, z1⟩
  · have hk : wayWithK L E n d p q = false := by unfold wayWithK; rw [decide_eq_false h6, Bool.and_false]
    rw [hk]; exact two_no _ _
structure WyB (X Y q R p : Int) : Prop where
  a0 : 0 ≤ X * q
  a1 : X * q ≤ 2000000000000000
  b0 : 0 ≤ X * q * R
  b1 : X * q * R ≤ 300000000000000000
  s0 : 0 ≤ p * Y
  s1 : p * Y ≤ 900000000000000000
  u0 : 1 ≤ Y * q
  u1 : Y * q ≤ 900000000000000
  v0 : 1 ≤ Y * q * R
  v1 : Y * q * R ≤ 200000000000000000
theorem wy_b {L E d n : Int} {t : Nat} (H : CamIn L E d n t) (i k : Nat) (hi : k + i + 1 = t) (p q : Int) (p0 : 0 ≤ p) (p1 : p ≤ 1000000000) (q0 : 1 ≤ q) (q1 : q ≤ 1000000) :
    FurBd (paX L E d n t i) (paY L E d n t i) (paG L n t i) (paH d i * paR E t i) ∧ WyB (rdN (paX L E d n t i * (paH d i * paR E t i) + paG L n t i * paY L E d n t i) (paH d i * paR E t i * paY L E d n t i)) (rdD (paX L E d n t i * (paH d i * paR E t i) + paG L n t i * paY L E d n t i) (paH d i * paR E t i * paY L E d n t i)) q (paR E t i) p := by
  obtain ⟨a1, a2, a3, a4⟩ := pa_bd H i (by omega)
  obtain ⟨g0, g1, h1, h2, r1, r2, e0, e1, f0, f1, m0, u1, u2⟩ := pa_b H i k hi
  generalize paX L E d n t i = x at *
  generalize paY L E d n t i = y at *
  generalize paG L n t i = g at *
  generalize paR E t i = R at *
  generalize paH d i = h at *
  have c1 := mul_le2 x (h * R) 937152 1584 a1 a2 (by omega) u2
  have c2 := mul_le2 g y 864 498960 g0 g1 (by omega) a4
  have c3 := mul_le2 (h * R) y 1584 498960 (by omega) u2 (by omega) a4
  have c4 := Int.mul_pos (show 0 < h * R by omega) (show 0 < y by omega)
  obtain ⟨z1, z2, z3, _, _⟩ := rd_bd (x * (h * R) + g * y) (h * R * y) (by omega)
  have z3 := z3 (by omega)
  generalize rdN (x * (h * R) + g * y) (h * R * y) = X at *
  generalize rdD (x * (h * R) + g * y) (h * R * y) = Y at *
  have d1 := mul_le2 X q 1916000000 1000000 z3.1 (by omega) (by omega) q1
  have d2 := mul_le2 (X * q) R 1916000000000000 132 d1.1 (by omega) (by omega) r2
  have d3 := mul_le2 p Y 1000000000 790352640 p0 p1 (by omega) (by omega)
  have d4 := mul_le2 Y q 790352640 1000000 (by omega) (by omega) (by omega) q1
  have d5 := Int.mul_pos (show 0 < Y by omega) (show 0 < q by omega)
  have d6 := mul_le2 (Y * q) R 790352640000000 132 (by omega) (by omega) (by omega) r2
  have d7 := Int.mul_pos (show 0 < Y * q by omega) (show 0 < R by omega)
  exact ⟨⟨by omega, by omega, by omega, by omega, by omega⟩, ⟨by omega, by omega, by omega, by omega, by omega, by omega, by omega, by omega, by omega, by omega⟩⟩
end Go.Proofs.Ytgmgifgbalcngaa

/- Camels: OneStop of the model; both sides, at all arguments. -/
namespace Go.Proofs.Ytgmgifgbalcngaa
open Go.ChangeShapes Go.WideShapes Go.ChangeAt Go.RowKit Go.Joins
set_option maxRecDepth 100000
set_option linter.unusedVariables false
set_option linter.unusedSimpArgs false

theorem os_iff (E d p q r s : Int) (hE : 1 ≤ E) (hd : 1 ≤ d) : decide (d * s * p * E ≤ d * q * r * E) = decide (p * s ≤ r * q) := by
  have h := Int.mul_pos (show 0 < d by omega) (show 0 < E by omega)
  have e1 : d * s * p * E = d * E * (p * s) := by ac_rfl
  have e2 : d * q * r * E = d * E * (r * q) := by ac_rfl
  rw [e1, e2, decide_eq_decide]
  constructor
  · intro hh; exact Int.le_of_mul_le_mul_left hh h
  · intro hh; exact Int.mul_le_mul_of_nonneg_left hh (by omega)
set_option maxHeartbeats 3200000 in
theorem caStop_spec (L E n d p q r s : Int) (hL : 1 ≤ L) (hL2 : L ≤ 12) (hE : 1 ≤ E) (hE2 : E ≤ 12) (hn : 0 ≤ n) (hd : 1 ≤ d) (hd2 : d ≤ 12) (hn6 : n ≤ 6 * L * d) (hp : 0 ≤ p) (hp2 : p ≤ 1000000000) (hq : 1 ≤ q) (hq2 : q ≤ 1000000) (hr : 0 ≤ r) (hr2 : r ≤ 1000000000) (hs : 1 ≤ s) (hs2 : s ≤ 1000000) (ap : Am p q) (ar : Am r s) (w : World) :
    Calls Try.prog 27 #[.agg #[.int .i64 L, .int .i64 E], .agg #[.int .i64 n, .int .i64 d], .agg #[.int .i64 p, .int .i64 q], .agg #[.int .i64 r, .int .i64 s]] w fun e w' => e = .returned (.tuple #[.agg #[.int .i64 (twoN (decide (p * s ≤ r * q)) (osB L E n d p q r s) (d * q * s)), .int .i64 (twoD (decide (p * s ≤ r * q)) (osB L E n d p q r s) (d * q * s))], .bool (twoB (decide (p * s ≤ r * q)) (osB L E n d p q r s) (d * q * s))]) ∧ Below w.heap.size w w' := by
  have H := cam_in L E d n hL hL2 hE hE2 hd hd2 hn hn6
  have hn2 := H.n2
  have HC := Lib.hid (fun W => cmp_spec p q r s ap ar W)
  by_cases hc : p * s ≤ r * q
  · rw [decide_eq_true hc, (two_yes _ _).1, (two_yes _ _).2.1, (two_yes _ _).2.2]
    have hsg := sg_le (p * s - r * q) (by omega)
    obtain ⟨sg, hsgE⟩ : ∃ sg, sgI (p * s - r * q) = sg := ⟨_, rfl⟩
    rw [hsgE] at HC hsg
    obtain ⟨hsg1, hsg2⟩ := hsg
    have hdec := os_iff E d p q r s hE hd
    rw [decide_eq_true hc, decide_eq_true_eq] at hdec
    have HT := Lib.hid (fun W => ctrips_spec L E n d hL hL2 hd (by omega) W)
    have ta := H.ht.a
    have tb := H.ht.b
    have HR := Lib.hid (fun W => rate_spec L E (trp (L * d) n) (by omega) (by omega) hE hE2 W)
    have hR1 := Int.mul_pos (show 0 < 2 * (trp (L * d) n : Int) - 1 by omega) (show 0 < E by omega)
    have hR2 := mul_le2 (2 * (trp (L * d) n : Int) - 1) E 11 12 (by omega) (by omega) (by omega) hE2
    have HO := Lib.hid (fun W => once_spec n d 0 1 ((2 * (trp (L * d) n : Int) - 1) * E) p q (once_bd n d 0 1 ((2 * (trp (L * d) n : Int) - 1) * E) p q hn (by omega) hd hd2 (by omega) (by omega) (by omega) (by omega) (by omega) (by omega) hp hp2 hq hq2) W)
    have e7 : n * 1 + (2 * (trp (L * d) n : Int) - 1) * E * 0 * d = n := by rw [Int.mul_zero, Int.zero_mul, Int.mul_one, Int.add_zero]
    have e8 : 1 * d = d := Int.one_mul _
    rw [e7, e8] at HO
    have etn : rdN n d * q - (2 * (trp (L * d) n : Int) - 1) * E * p * rdD n d = thN L E n d p q := rfl
    have etd : rdD n d * q = thD n d q := rfl
    rw [etn, etd] at HO
    have hth := th_is L E n d p q s hd hq hs
    have htd := hth.c
    clear e7 e8 etn etd
    by_cases hneg : thN L E n d p q < 0
    · have hA : osA L E n d p q s < 0 := by
        rw [hth.a]
        exact Int.mul_neg_of_pos_of_neg (by have := hth.g1; omega) hneg
      have hz := os_neg L E n d p q r s hdec hA
      obtain ⟨z1, z2, z3⟩ := low_neg _ (d * q * s) hz
      rw [z1, z2, z3]
      clear z1 z2 z3 hz hA hth hdec hsgE
      generalize thN L E n d p q = tn at *
      generalize thD n d q = td at *
      generalize ((2 * (trp (L * d) n : Int) - 1) * E) = r1 at *
      generalize trp (L * d) n = t1 at *
      go_enter Try.func27, Try.ntmps27
      go_upto_region 1 with fail
      change Code.wp _ _ _ _ (((((w.alloc (.cells #[.int .i64 L, .int .i64 E] 31)).alloc (.cells #[.int .i64 n, .int .i64 d] 28)).alloc (.cells #[.int .i64 p, .int .i64 q] 28)).alloc (.cells #[.int .i64 r, .int .i64 s] 28)).alloc (.cells #[.int .i64 0, .int .i64 0] 28))
      generalize hV : (((((w.alloc (.cells #[.int .i64 L, .int .i64 E] 31)).alloc (.cells #[.int .i64 n, .int .i64 d] 28)).alloc (.cells #[.int .i64 p, .int .i64 q] 28)).alloc (.cells #[.int .i64 r, .int .i64 s] 28)).alloc (.cells #[.int .i64 0, .int .i64 0] 28)) = V
      have c1 : V.cell? ⟨w.heap.size, 0, none⟩ = some (.int .i64 L) := by subst hV; simp [go_sem]
      have c2 : V.cell? ⟨w.heap.size, 1, none⟩ = some (.int .i64 E) := by subst hV; simp [go_sem]
      have c3 : V.cell? ⟨w.heap.size + 1, 0, none⟩ = some (.int .i64 n) := by subst hV; simp [go_sem]
      have c4 : V.cell? ⟨w.heap.size + 1, 1, none⟩ = some (.int .i64 d) := by subst hV; simp [go_sem]
      have c5 : V.cell? ⟨w.heap.size + 1 + 1, 0, none⟩ = some (.int .i64 p) := by subst hV; simp [go_sem]
      have c6 : V.cell? ⟨w.heap.size + 1 + 1, 1, none⟩ = some (.int .i64 q) := by subst hV; simp [go_sem]
      have c7 : V.cell? ⟨w.heap.size + 1 + 1 + 1, 0, none⟩ = some (.int .i64 r) := by subst hV; simp [go_sem]
      have c8 : V.cell? ⟨w.heap.size + 1 + 1 + 1, 1, none⟩ = some (.int .i64 s) := by subst hV; simp [go_sem]
      have hr0 : HasRes (w.heap.size + 1 + 1 + 1 + 1) V := ⟨.int .i64 0, .int .i64 0, by subst hV; simp [go_sem], by subst hV; simp [go_sem], by subst hV; simp [go_sem], by subst hV; simp [go_sem], by subst hV; simp⟩
      have hs0 : w.heap.size + 1 + 1 + 1 + 1 < V.heap.size := by subst hV; simp
      have hbw : Below w.heap.size w V := by subst hV; (repeat (first | with_reducible exact Below.refl _ _ | with_reducible assumption | with_reducible refine balloc ?_ _ | with_reducible refine bdrew ?_ | with_reducible refine below_drewN ?_ _ | with_reducible refine bset ?_ ?_ _ | with_reducible exact Nat.le_refl _ | with_reducible refine bsize ?_ | (dsimp only; refine Nat.le_trans ?_ (Nat.le_add_right _ _)) | with_reducible refine Nat.le_trans ?_ (Nat.le_add_right _ _) | (with_reducible refine bstep ?_ (by assumption))))
      clear hV
      go_wp2_with fail
      refine (HC.out _).mono ?_
      rintro e w1 ⟨rfl, hb1⟩
      have f0 : Below V.heap.size V w1 := bstep (by (repeat (first | with_reducible exact Below.refl _ _ | with_reducible assumption | with_reducible refine balloc ?_ _ | with_reducible refine bdrew ?_ | with_reducible refine below_drewN ?_ _ | with_reducible refine bset ?_ ?_ _ | with_reducible exact Nat.le_refl _ | with_reducible refine bsize ?_ | (dsimp only; refine Nat.le_trans ?_ (Nat.le_add_right _ _)) | with_reducible refine Nat.le_trans ?_ (Nat.le_add_right _ _) | (with_reducible refine bstep ?_ (by assumption))))) hb1
      replace c1 := keepa f0 (by omega) c1
      replace c2 := keepa f0 (by omega) c2
      replace c3 := keepa f0 (by omega) c3
      replace c4 := keepa f0 (by omega) c4
      replace c5 := keepa f0 (by omega) c5
      replace c6 := keepa f0 (by omega) c6
      replace c7 := keepa f0 (by omega) c7
      replace c8 := keepa f0 (by omega) c8
      replace hr0 := hr0.later f0
      replace hbw := bstep hbw f0
      replace hs0 := Nat.lt_of_lt_of_le hs0 f0.size
      clear f0 hb1
      go_upto_region 3 with fail
      go_cut [10] (fun s10 wx => ∃ gb : Nat, s10 = .pointer (some ⟨gb, 0, none⟩) ∧ wx.cell? ⟨gb, 0, none⟩ = some (.int .i64 tn) ∧ wx.cell? ⟨gb, 1, none⟩ = some (.int .i64 td) ∧ gb < wx.heap.size ∧ Below w1.heap.size w1 wx)
      case first =>
        have hS := Lib.hid (fun (W : World) (h : Below w1.heap.size w1 W) => (⟨h, keepa h (by omega) c1, keepa h (by omega) c2, keepa h (by omega) c3, keepa h (by omega) c4, keepa h (by omega) c5, keepa h (by omega) c6⟩ : Below w1.heap.size w1 W ∧ W.cell? ⟨w.heap.size, 0, none⟩ = some (.int .i64 L) ∧ W.cell? ⟨w.heap.size, 1, none⟩ = some (.int .i64 E) ∧ W.cell? ⟨w.heap.size + 1, 0, none⟩ = some (.int .i64 n) ∧ W.cell? ⟨w.heap.size + 1, 1, none⟩ = some (.int .i64 d) ∧ W.cell? ⟨w.heap.size + 1 + 1, 0, none⟩ = some (.int .i64 p) ∧ W.cell? ⟨w.heap.size + 1 + 1, 1, none⟩ = some (.int .i64 q)))
        go_region_held3 (fun W => Below w1.heap.size w1 W ∧ W.cell? ⟨w.heap.size, 0, none⟩ = some (.int .i64 L) ∧ W.cell? ⟨w.heap.size, 1, none⟩ = some (.int .i64 E) ∧ W.cell? ⟨w.heap.size + 1, 0, none⟩ = some (.int .i64 n) ∧ W.cell? ⟨w.heap.size + 1, 1, none⟩ = some (.int .i64 d) ∧ W.cell? ⟨w.heap.size + 1 + 1, 0, none⟩ = some (.int .i64 p) ∧ W.cell? ⟨w.heap.size + 1 + 1, 1, none⟩ = some (.int .i64 q)) ((refine hS.out _ ?_; first | with_reducible assumption | ((repeat (first | with_reducible exact Below.refl _ _ | with_reducible assumption | with_reducible refine balloc ?_ _ | with_reducible refine bdrew ?_ | with_reducible refine below_drewN ?_ _ | with_reducible refine bset ?_ ?_ _ | with_reducible exact Nat.le_refl _ | with_reducible refine bsize ?_ | (dsimp only; refine Nat.le_trans ?_ (Nat.le_add_right _ _)) | with_reducible refine Nat.le_trans ?_ (Nat.le_add_right _ _) | (with_reducible refine bstep ?_ (by assumption)))); done))) (first | (go_at_call 51; refine (HT.out _).mono ?_; rintro e w3 ⟨rfl, hb3⟩; (try have fr := HasRes.later (by first | with_reducible assumption | with_reducible exact HasRes.drew (by with_reducible assumption) | exact HasRes.newd _ _ _ _ | exact HasRes.new _ _ _ _ | exact HasRes.drew (HasRes.newd _ _ _ _) | exact HasRes.drew (HasRes.new _ _ _ _)) hb3); (try (have fr2 := fr; obtain ⟨rx, ry, y1, y2, y3, y4, y5⟩ := fr2)); (have f0 := bstep (by first | with_reducible assumption | ((repeat (first | with_reducible exact Below.refl _ _ | with_reducible assumption | with_reducible refine balloc ?_ _ | with_reducible refine bdrew ?_ | with_reducible refine below_drewN ?_ _ | with_reducible refine bset ?_ ?_ _ | with_reducible exact Nat.le_refl _ | with_reducible refine bsize ?_ | (dsimp only; refine Nat.le_trans ?_ (Nat.le_add_right _ _)) | with_reducible refine Nat.le_trans ?_ (Nat.le_add_right _ _) | (with_reducible refine bstep ?_ (by assumption)))); done) : Below w1.heap.size w1 _) hb3); (have f1 := hS.out _ f0); go_split_ands) | (go_at_call 50; refine (HR.out _).mono ?_; rintro e w3 ⟨rfl, hb3⟩; (try have fr := HasRes.later (by first | with_reducible assumption | with_reducible exact HasRes.drew (by with_reducible assumption) | exact HasRes.newd _ _ _ _ | exact HasRes.new _ _ _ _ | exact HasRes.drew (HasRes.newd _ _ _ _) | exact HasRes.drew (HasRes.new _ _ _ _)) hb3); (try (have fr2 := fr; obtain ⟨rx, ry, y1, y2, y3, y4, y5⟩ := fr2)); (have f0 := bstep (by first | with_reducible assumption | ((repeat (first | with_reducible exact Below.refl _ _ | with_reducible assumption | with_reducible refine balloc ?_ _ | with_reducible refine bdrew ?_ | with_reducible refine below_drewN ?_ _ | with_reducible refine bset ?_ ?_ _ | with_reducible exact Nat.le_refl _ | with_reducible refine bsize ?_ | (dsimp only; refine Nat.le_trans ?_ (Nat.le_add_right _ _)) | with_reducible refine Nat.le_trans ?_ (Nat.le_add_right _ _) | (with_reducible refine bstep ?_ (by assumption)))); done) : Below w1.heap.size w1 _) hb3); (have f1 := hS.out _ f0); go_split_ands) | (go_at_call 49; refine (HO.out _).mono ?_; rintro e w3 ⟨rfl, hb3⟩; (try have fr := HasRes.later (by first | with_reducible assumption | with_reducible exact HasRes.drew (by with_reducible assumption) | exact HasRes.newd _ _ _ _ | exact HasRes.new _ _ _ _ | exact HasRes.drew (HasRes.newd _ _ _ _) | exact HasRes.drew (HasRes.new _ _ _ _)) hb3); (try (have fr2 := fr; obtain ⟨rx, ry, y1, y2, y3, y4, y5⟩ := fr2)); (have f0 := bstep (by first | with_reducible assumption | ((repeat (first | with_reducible exact Below.refl _ _ | with_reducible assumption | with_reducible refine balloc ?_ _ | with_reducible refine bdrew ?_ | with_reducible refine below_drewN ?_ _ | with_reducible refine bset ?_ ?_ _ | with_reducible exact Nat.le_refl _ | with_reducible refine bsize ?_ | (dsimp only; refine Nat.le_trans ?_ (Nat.le_add_right _ _)) | with_reducible refine Nat.le_trans ?_ (Nat.le_add_right _ _) | (with_reducible refine bstep ?_ (by assumption)))); done) : Below w1.heap.size w1 _) hb3); (have f1 := hS.out _ f0); go_split_ands))
        all_goals (go_wp2_with fail; go_meet)
        all_goals refine ⟨_, rfl, ?_, ?_, ?_, ?_⟩
        all_goals first | ((repeat (first | with_reducible exact Below.refl _ _ | with_reducible assumption | with_reducible refine balloc ?_ _ | with_reducible refine bdrew ?_ | with_reducible refine below_drewN ?_ _ | with_reducible refine bset ?_ ?_ _ | with_reducible exact Nat.le_refl _ | with_reducible refine bsize ?_ | (dsimp only; refine Nat.le_trans ?_ (Nat.le_add_right _ _)) | with_reducible refine Nat.le_trans ?_ (Nat.le_add_right _ _) | (with_reducible refine bstep ?_ (by assumption)))); done) | (simp [go_sem, y1, y2, y3, y4, y5]; done) | (simp [go_sem]; done) | (simp; omega)
      case rest =>
        obtain ⟨gb, rfl, d0, d1, dz, hf⟩ := hcut
        replace c1 := keepa hf (by omega) c1
        replace c2 := keepa hf (by omega) c2
        replace c3 := keepa hf (by omega) c3
        replace c4 := keepa hf (by omega) c4
        replace c5 := keepa hf (by omega) c5
        replace c6 := keepa hf (by omega) c6
        replace c7 := keepa hf (by omega) c7
        replace c8 := keepa hf (by omega) c8
        replace hr0 := hr0.later hf
        replace hbw := bstep hbw hf
        replace hs0 := Nat.lt_of_lt_of_le hs0 hf.size
        clear hf
        obtain ⟨rx, ry, z1, z2, z3, z4, z5⟩ := hr0
        go_wp2
        refine bodyPost_ret (v := .tuple #[.agg #[.int .i64 0, .int .i64 0], .bool false]) (by simp only [results, Try.results27]; go_simp) rfl ⟨rfl, ?_⟩
        (repeat (first | with_reducible exact Below.refl _ _ | with_reducible assumption | with_reducible refine balloc ?_ _ | with_reducible refine bdrew ?_ | with_reducible refine below_drewN ?_ _ | with_reducible refine bset ?_ ?_ _ | with_reducible exact Nat.le_refl _ | with_reducible refine bsize ?_ | (dsimp only; refine Nat.le_trans ?_ (Nat.le_add_right _ _)) | with_reducible refine Nat.le_trans ?_ (Nat.le_add_right _ _) | (with_reducible refine bstep ?_ (by assumption))))
    by_cases hfar : 1000 * s < r
    · have hz := os_far L E n d p q r s hE hd hq hs hp hn2 hdec hfar
      obtain ⟨z1, z2, z3⟩ := low_neg _ (d * q * s) hz
      rw [z1, z2, z3]
      have ht2 := trp_bd (L * thD n d q) (thN L E n d p q)
      have HT2 := Lib.hid (fun W => ctrips_spec L E (thN L E n d p q) (thD n d q) hL hL2 htd (by have := (mul_le2 (rdD n d) q 12 1000000 (by have := (rd_bd n d hd).1; omega) (by have := (rd_bd n d hd).2.1; omega) (by omega) hq2); unfold thD; omega) W)
      have HR2 := Lib.hid (fun W => rate_spec L E (trp (L * thD n d q) (thN L E n d p q)) (by omega) (by omega) hE hE2 W)
      clear z1 z2 z3 hz hth hdec hsgE
      generalize ((2 * (trp (L * thD n d q) (thN L E n d p q) : Int) - 1) * E) = r2 at *
      generalize trp (L * thD n d q) (thN L E n d p q) = t2 at *
      generalize thN L E n d p q = tn at *
      generalize thD n d q = td at *
      generalize ((2 * (trp (L * d) n : Int) - 1) * E) = r1 at *
      generalize trp (L * d) n = t1 at *
      go_enter Try.func27, Try.ntmps27
      go_upto_region 1 with fail
      change Code.wp _ _ _ _ (((((w.alloc (.cells #[.int .i64 L, .int .i64 E] 31)).alloc (.cells #[.int .i64 n, .int .i64 d] 28)).alloc (.cells #[.int .i64 p, .int .i64 q] 28)).alloc (.cells #[.int .i64 r, .int .i64 s] 28)).alloc (.cells #[.int .i64 0, .int .i64 0] 28))
      generalize hV : (((((w.alloc (.cells #[.int .i64 L, .int .i64 E] 31)).alloc (.cells #[.int .i64 n, .int .i64 d] 28)).alloc (.cells #[.int .i64 p, .int .i64 q] 28)).alloc (.cells #[.int .i64 r, .int .i64 s] 28)).alloc (.cells #[.int .i64 0, .int .i64 0] 28)) = V
      have c1 : V.cell? ⟨w.heap.size, 0, none⟩ = some (.int .i64 L) := by subst hV; simp [go_sem]
      have c2 : V.cell? ⟨w.heap.size, 1, none⟩ = some (.int .i64 E) := by subst hV; simp [go_sem]
      have c3 : V.cell? ⟨w.heap.size + 1, 0, none⟩ = some (.int .i64 n) := by subst hV; simp [go_sem]
      have c4 : V.cell? ⟨w.heap.size + 1, 1, none⟩ = some (.int .i64 d) := by subst hV; simp [go_sem]
      have c5 : V.cell? ⟨w.heap.size + 1 + 1, 0, none⟩ = some (.int .i64 p) := by subst hV; simp [go_sem]
      have c6 : V.cell? ⟨w.heap.size + 1 + 1, 1, none⟩ = some (.int .i64 q) := by subst hV; simp [go_sem]
      have c7 : V.cell? ⟨w.heap.size + 1 + 1 + 1, 0, none⟩ = some (.int .i64 r) := by subst hV; simp [go_sem]
      have c8 : V.cell? ⟨w.heap.size + 1 + 1 + 1, 1, none⟩ = some (.int .i64 s) := by subst hV; simp [go_sem]
      have hr0 : HasRes (w.heap.size + 1 + 1 + 1 + 1) V := ⟨.int .i64 0, .int .i64 0, by subst hV; simp [go_sem], by subst hV; simp [go_sem], by subst hV; simp [go_sem], by subst hV; simp [go_sem], by subst hV; simp⟩
      have hs0 : w.heap.size + 1 + 1 + 1 + 1 < V.heap.size := by subst hV; simp
      have hbw : Below w.heap.size w V := by subst hV; (repeat (first | with_reducible exact Below.refl _ _ | with_reducible assumption | with_reducible refine balloc ?_ _ | with_reducible refine bdrew ?_ | with_reducible refine below_drewN ?_ _ | with_reducible refine bset ?_ ?_ _ | with_reducible exact Nat.le_refl _ | with_reducible refine bsize ?_ | (dsimp only; refine Nat.le_trans ?_ (Nat.le_add_right _ _)) | with_reducible refine Nat.le_trans ?_ (Nat.le_add_right _ _) | (with_reducible refine bstep ?_ (by assumption))))
      clear hV
      go_wp2_with fail
      refine (HC.out _).mono ?_
      rintro e w1 ⟨rfl, hb1⟩
      have f0 : Below V.heap.size V w1 := bstep (by (repeat (first | with_reducible exact Below.refl _ _ | with_reducible assumption | with_reducible refine balloc ?_ _ | with_reducible refine bdrew ?_ | with_reducible refine below_drewN ?_ _ | with_reducible refine bset ?_ ?_ _ | with_reducible exact Nat.le_refl _ | with_reducible refine bsize ?_ | (dsimp only; refine Nat.le_trans ?_ (Nat.le_add_right _ _)) | with_reducible refine Nat.le_trans ?_ (Nat.le_add_right _ _) | (with_reducible refine bstep ?_ (by assumption))))) hb1
      replace c1 := keepa f0 (by omega) c1
      replace c2 := keepa f0 (by omega) c2
      replace c3 := keepa f0 (by omega) c3
      replace c4 := keepa f0 (by omega) c4
      replace c5 := keepa f0 (by omega) c5
      replace c6 := keepa f0 (by omega) c6
      replace c7 := keepa f0 (by omega) c7
      replace c8 := keepa f0 (by omega) c8
      replace hr0 := hr0.later f0
      replace hbw := bstep hbw f0
      replace hs0 := Nat.lt_of_lt_of_le hs0 f0.size
      clear f0 hb1
      go_upto_region 3 with fail
      go_cut [10] (fun s10 wx => ∃ gb : Nat, s10 = .pointer (some ⟨gb, 0, none⟩) ∧ wx.cell? ⟨gb, 0, none⟩ = some (.int .i64 tn) ∧ wx.cell? ⟨gb, 1, none⟩ = some (.int .i64 td) ∧ gb < wx.heap.size ∧ Below w1.heap.size w1 wx)
      case first =>
        have hS := Lib.hid (fun (W : World) (h : Below w1.heap.size w1 W) => (⟨h, keepa h (by omega) c1, keepa h (by omega) c2, keepa h (by omega) c3, keepa h (by omega) c4, keepa h (by omega) c5, keepa h (by omega) c6⟩ : Below w1.heap.size w1 W ∧ W.cell? ⟨w.heap.size, 0, none⟩ = some (.int .i64 L) ∧ W.cell? ⟨w.heap.size, 1, none⟩ = some (.int .i64 E) ∧ W.cell? ⟨w.heap.size + 1, 0, none⟩ = some (.int .i64 n) ∧ W.cell? ⟨w.heap.size + 1, 1, none⟩ = some (.int .i64 d) ∧ W.cell? ⟨w.heap.size + 1 + 1, 0, none⟩ = some (.int .i64 p) ∧ W.cell? ⟨w.heap.size + 1 + 1, 1, none⟩ = some (.int .i64 q)))
        go_region_held3 (fun W => Below w1.heap.size w1 W ∧ W.cell? ⟨w.heap.size, 0, none⟩ = some (.int .i64 L) ∧ W.cell? ⟨w.heap.size, 1, none⟩ = some (.int .i64 E) ∧ W.cell? ⟨w.heap.size + 1, 0, none⟩ = some (.int .i64 n) ∧ W.cell? ⟨w.heap.size + 1, 1, none⟩ = some (.int .i64 d) ∧ W.cell? ⟨w.heap.size + 1 + 1, 0, none⟩ = some (.int .i64 p) ∧ W.cell? ⟨w.heap.size + 1 + 1, 1, none⟩ = some (.int .i64 q)) ((refine hS.out _ ?_; first | with_reducible assumption | ((repeat (first | with_reducible exact Below.refl _ _ | with_reducible assumption | with_reducible refine balloc ?_ _ | with_reducible refine bdrew ?_ | with_reducible refine below_drewN ?_ _ | with_reducible refine bset ?_ ?_ _ | with_reducible exact Nat.le_refl _ | with_reducible refine bsize ?_ | (dsimp only; refine Nat.le_trans ?_ (Nat.le_add_right _ _)) | with_reducible refine Nat.le_trans ?_ (Nat.le_add_right _ _) | (with_reducible refine bstep ?_ (by assumption)))); done))) (first | (go_at_call 51; refine (HT.out _).mono ?_; rintro e w3 ⟨rfl, hb3⟩; (try have fr := HasRes.later (by first | with_reducible assumption | with_reducible exact HasRes.drew (by with_reducible assumption) | exact HasRes.newd _ _ _ _ | exact HasRes.new _ _ _ _ | exact HasRes.drew (HasRes.newd _ _ _ _) | exact HasRes.drew (HasRes.new _ _ _ _)) hb3); (try (have fr2 := fr; obtain ⟨rx, ry, y1, y2, y3, y4, y5⟩ := fr2)); (have f0 := bstep (by first | with_reducible assumption | ((repeat (first | with_reducible exact Below.refl _ _ | with_reducible assumption | with_reducible refine balloc ?_ _ | with_reducible refine bdrew ?_ | with_reducible refine below_drewN ?_ _ | with_reducible refine bset ?_ ?_ _ | with_reducible exact Nat.le_refl _ | with_reducible refine bsize ?_ | (dsimp only; refine Nat.le_trans ?_ (Nat.le_add_right _ _)) | with_reducible refine Nat.le_trans ?_ (Nat.le_add_right _ _) | (with_reducible refine bstep ?_ (by assumption)))); done) : Below w1.heap.size w1 _) hb3); (have f1 := hS.out _ f0); go_split_ands) | (go_at_call 50; refine (HR.out _).mono ?_; rintro e w3 ⟨rfl, hb3⟩; (try have fr := HasRes.later (by first | with_reducible assumption | with_reducible exact HasRes.drew (by with_reducible assumption) | exact HasRes.newd _ _ _ _ | exact HasRes.new _ _ _ _ | exact HasRes.drew (HasRes.newd _ _ _ _) | exact HasRes.drew (HasRes.new _ _ _ _)) hb3); (try (have fr2 := fr; obtain ⟨rx, ry, y1, y2, y3, y4, y5⟩ := fr2)); (have f0 := bstep (by first | with_reducible assumption | ((repeat (first | with_reducible exact Below.refl _ _ | with_reducible assumption | with_reducible refine balloc ?_ _ | with_reducible refine bdrew ?_ | with_reducible refine below_drewN ?_ _ | with_reducible refine bset ?_ ?_ _ | with_reducible exact Nat.le_refl _ | with_reducible refine bsize ?_ | (dsimp only; refine Nat.le_trans ?_ (Nat.le_add_right _ _)) | with_reducible refine Nat.le_trans ?_ (Nat.le_add_right _ _) | (with_reducible refine bstep ?_ (by assumption)))); done) : Below w1.heap.size w1 _) hb3); (have f1 := hS.out _ f0); go_split_ands) | (go_at_call 49; refine (HO.out _).mono ?_; rintro e w3 ⟨rfl, hb3⟩; (try have fr := HasRes.later (by first | with_reducible assumption | with_reducible exact HasRes.drew (by with_reducible assumption) | exact HasRes.newd _ _ _ _ | exact HasRes.new _ _ _ _ | exact HasRes.drew (HasRes.newd _ _ _ _) | exact HasRes.drew (HasRes.new _ _ _ _)) hb3); (try (have fr2 := fr; obtain ⟨rx, ry, y1, y2, y3, y4, y5⟩ := fr2)); (have f0 := bstep (by first | with_reducible assumption | ((repeat (first | with_reducible exact Below.refl _ _ | with_reducible assumption | with_reducible refine balloc ?_ _ | with_reducible refine bdrew ?_ | with_reducible refine below_drewN ?_ _ | with_reducible refine bset ?_ ?_ _ | with_reducible exact Nat.le_refl _ | with_reducible refine bsize ?_ | (dsimp only; refine Nat.le_trans ?_ (Nat.le_add_right _ _)) | with_reducible refine Nat.le_trans ?_ (Nat.le_add_right _ _) | (with_reducible refine bstep ?_ (by assumption)))); done) : Below w1.heap.size w1 _) hb3); (have f1 := hS.out _ f0); go_split_ands))
        all_goals (go_wp2_with fail; go_meet)
        all_goals refine ⟨_, rfl, ?_, ?_, ?_, ?_⟩
        all_goals first | ((repeat (first | with_reducible exact Below.refl _ _ | with_reducible assumption | with_reducible refine balloc ?_ _ | with_reducible refine bdrew ?_ | with_reducible refine below_drewN ?_ _ | with_reducible refine bset ?_ ?_ _ | with_reducible exact Nat.le_refl _ | with_reducible refine bsize ?_ | (dsimp only; refine Nat.le_trans ?_ (Nat.le_add_right _ _)) | with_reducible refine Nat.le_trans ?_ (Nat.le_add_right _ _) | (with_reducible refine bstep ?_ (by assumption)))); done) | (simp [go_sem, y1, y2, y3, y4, y5]; done) | (simp [go_sem]; done) | (simp; omega)
      case rest =>
        obtain ⟨gb, rfl, d0, d1, dz, hf⟩ := hcut
        replace c1 := keepa hf (by omega) c1
        replace c2 := keepa hf (by omega) c2
        replace c3 := keepa hf (by omega) c3
        replace c4 := keepa hf (by omega) c4
        replace c5 := keepa hf (by omega) c5
        replace c6 := keepa hf (by omega) c6
        replace c7 := keepa hf (by omega) c7
        replace c8 := keepa hf (by omega) c8
        replace hr0 := hr0.later hf
        replace hbw := bstep hbw hf
        replace hs0 := Nat.lt_of_lt_of_le hs0 hf.size
        clear hf
        go_upto_region 6 with fail
        go_cut [11] (fun s11 wx => s11 = .int .i64 r2 ∧ Below wc.heap.size wc wx)
        case first =>
          have hS := Lib.hid (fun (W : World) (h : Below wc.heap.size wc W) => (⟨h, keepa h (by omega) c1, keepa h (by omega) c2, keepa h dz d0, keepa h dz d1⟩ : Below wc.heap.size wc W ∧ W.cell? ⟨w.heap.size, 0, none⟩ = some (.int .i64 L) ∧ W.cell? ⟨w.heap.size, 1, none⟩ = some (.int .i64 E) ∧ W.cell? ⟨gb, 0, none⟩ = some (.int .i64 tn) ∧ W.cell? ⟨gb, 1, none⟩ = some (.int .i64 td)))
          go_region_held3 (fun W => Below wc.heap.size wc W ∧ W.cell? ⟨w.heap.size, 0, none⟩ = some (.int .i64 L) ∧ W.cell? ⟨w.heap.size, 1, none⟩ = some (.int .i64 E) ∧ W.cell? ⟨gb, 0, none⟩ = some (.int .i64 tn) ∧ W.cell? ⟨gb, 1, none⟩ = some (.int .i64 td)) ((refine hS.out _ ?_; first | with_reducible assumption | ((repeat (first | with_reducible exact Below.refl _ _ | with_reducible assumption | with_reducible refine balloc ?_ _ | with_reducible refine bdrew ?_ | with_reducible refine below_drewN ?_ _ | with_reducible refine bset ?_ ?_ _ | with_reducible exact Nat.le_refl _ | with_reducible refine bsize ?_ | (dsimp only; refine Nat.le_trans ?_ (Nat.le_add_right _ _)) | with_reducible refine Nat.le_trans ?_ (Nat.le_add_right _ _) | (with_reducible refine bstep ?_ (by assumption)))); done))) (first | (go_at_call 51; refine (HT2.out _).mono ?_; rintro e w3 ⟨rfl, hb3⟩; (have f0 := bstep (by first | with_reducible assumption | ((repeat (first | with_reducible exact Below.refl _ _ | with_reducible assumption | with_reducible refine balloc ?_ _ | with_reducible refine bdrew ?_ | with_reducible refine below_drewN ?_ _ | with_reducible refine bset ?_ ?_ _ | with_reducible exact Nat.le_refl _ | with_reducible refine bsize ?_ | (dsimp only; refine Nat.le_trans ?_ (Nat.le_add_right _ _)) | with_reducible refine Nat.le_trans ?_ (Nat.le_add_right _ _) | (with_reducible refine bstep ?_ (by assumption)))); done) : Below wc.heap.size wc _) hb3); (have f1 := hS.out _ f0); go_split_ands) | (go_at_call 50; refine (HR2.out _).mono ?_; rintro e w3 ⟨rfl, hb3⟩; (have f0 := bstep (by first | with_reducible assumption | ((repeat (first | with_reducible exact Below.refl _ _ | with_reducible assumption | with_reducible refine balloc ?_ _ | with_reducible refine bdrew ?_ | with_reducible refine below_drewN ?_ _ | with_reducible refine bset ?_ ?_ _ | with_reducible exact Nat.le_refl _ | with_reducible refine bsize ?_ | (dsimp only; refine Nat.le_trans ?_ (Nat.le_add_right _ _)) | with_reducible refine Nat.le_trans ?_ (Nat.le_add_right _ _) | (with_reducible refine bstep ?_ (by assumption)))); done) : Below wc.heap.size wc _) hb3); (have f1 := hS.out _ f0); go_split_ands))
          all_goals (go_wp2_with fail; go_meet)
          all_goals exact ⟨rfl, by (repeat (first | with_reducible exact Below.refl _ _ | with_reducible assumption | with_reducible refine balloc ?_ _ | with_reducible refine bdrew ?_ | with_reducible refine below_drewN ?_ _ | with_reducible refine bset ?_ ?_ _ | with_reducible exact Nat.le_refl _ | with_reducible refine bsize ?_ | (dsimp only; refine Nat.le_trans ?_ (Nat.le_add_right _ _)) | with_reducible refine Nat.le_trans ?_ (Nat.le_add_right _ _) | (with_reducible refine bstep ?_ (by assumption))))⟩
        case rest =>
          obtain ⟨rfl, hf⟩ := hcut
          replace c1 := keepa hf (by omega) c1
          replace c2 := keepa hf (by omega) c2
          replace c3 := keepa hf (by omega) c3
          replace c4 := keepa hf (by omega) c4
          replace c5 := keepa hf (by omega) c5
          replace c6 := keepa hf (by omega) c6
          replace c7 := keepa hf (by omega) c7
          replace c8 := keepa hf (by omega) c8
          replace hr0 := hr0.later hf
          replace hbw := bstep hbw hf
          replace hs0 := Nat.lt_of_lt_of_le hs0 hf.size
          replace d0 := keepa hf dz d0
          replace d1 := keepa hf dz d1
          replace dz := Nat.lt_of_lt_of_le dz hf.size
          clear hf
          obtain ⟨rx, ry, z1, z2, z3, z4, z5⟩ := hr0
          go_wp2
          refine bodyPost_ret (v := .tuple #[.agg #[.int .i64 0, .int .i64 0], .bool false]) (by simp only [results, Try.results27]; go_simp) rfl ⟨rfl, ?_⟩
          (repeat (first | with_reducible exact Below.refl _ _ | with_reducible assumption | with_reducible refine balloc ?_ _ | with_reducible refine bdrew ?_ | with_reducible refine below_drewN ?_ _ | with_reducible refine bset ?_ ?_ _ | with_reducible exact Nat.le_refl _ | with_reducible refine bsize ?_ | (dsimp only; refine Nat.le_trans ?_ (Nat.le_add_right _ _)) | with_reducible refine Nat.le_trans ?_ (Nat.le_add_right _ _) | (with_reducible refine bstep ?_ (by assumption))))
    have ht2b := trp_bd (L * thD n d q) (thN L E n d p q)
    have ht2 : trp (L * thD n d q) (thN L E n d p q) ≤ 6 := by
      rw [th_trp L E n d p q s hd hq hs]
      have B := os_b L E n d p q r s hL hL2 hE hE2 hn hd hd2 hn6 hp hp2 hq hq2 hr hr2 hs hs2
      exact (trp_is _ _ (by have := B.x6; have := B.a1; omega)).b
    obtain ⟨hbd, tn2, td1, td2⟩ := os_bd L E n d p q r s (2 * (trp (L * thD n d q) (thN L E n d p q) : Int) - 1) hE hE2 hn hn2 hd hd2 hp hp2 hq hq2 hr hr2 hs hs2 (by omega) (by omega) (by omega)
    have HT2 := Lib.hid (fun W => ctrips_spec L E (thN L E n d p q) (thD n d q) hL hL2 htd (by omega) W)
    have HR2 := Lib.hid (fun W => rate_spec L E (trp (L * thD n d q) (thN L E n d p q)) (by omega) (by omega) hE hE2 W)
    have HO2 := Lib.hid (fun W => once_spec _ _ _ _ _ _ _ hbd W)
    have hqt := Int.mul_pos (show 0 < q by omega) (show 0 < thD n d q by omega)
    have ho := once_low (thN L E n d p q * q + (2 * (trp (L * thD n d q) (thN L E n d p q) : Int) - 1) * E * p * thD n d q) (q * thD n d q) s ((2 * (trp (L * thD n d q) (thN L E n d p q) : Int) - 1) * E * r) (by omega) hs
    have hl := os_low L E n d p q r s hd hq hs
    obtain ⟨-, -, -, -, -, b3, b4⟩ := hbd
    obtain ⟨g1, -, -, -, -⟩ := rd_bd (thN L E n d p q * q + (2 * (trp (L * thD n d q) (thN L E n d p q) : Int) - 1) * E * p * thD n d q) (q * thD n d q) (by omega)
    have g2 := Int.mul_pos (show 0 < rdD (thN L E n d p q * q + (2 * (trp (L * thD n d q) (thN L E n d p q) : Int) - 1) * E * p * thD n d q) (q * thD n d q) by omega) (show 0 < s by omega)
    have HM := Lib.hid (fun W => made_spec _ _ (show 1 ≤ rdD (thN L E n d p q * q + (2 * (trp (L * thD n d q) (thN L E n d p q) : Int) - 1) * E * p * thD n d q) (q * thD n d q) * s by omega) b4.2 b3.2 W)
    rw [ho.1, ho.2.1, ho.2.2, hl.1, hl.2.1, hl.2.2] at HM
    clear ho hl b3 b4 g1 g2 hqt hth hdec hsgE ht2
    generalize osB L E n d p q r s = X at *
    generalize d * q * s = M at *
    generalize rdN (thN L E n d p q * q + (2 * (trp (L * thD n d q) (thN L E n d p q) : Int) - 1) * E * p * thD n d q) (q * thD n d q) * s - (2 * (trp (L * thD n d q) (thN L E n d p q) : Int) - 1) * E * r * rdD (thN L E n d p q * q + (2 * (trp (L * thD n d q) (thN L E n d p q) : Int) - 1) * E * p * thD n d q) (q * thD n d q) = Y at *
    generalize rdD (thN L E n d p q * q + (2 * (trp (L * thD n d q) (thN L E n d p q) : Int) - 1) * E * p * thD n d q) (q * thD n d q) * s = Z at *
    generalize ((2 * (trp (L * thD n d q) (thN L E n d p q) : Int) - 1) * E) = r2 at *
    generalize trp (L * thD n d q) (thN L E n d p q) = t2 at *
    generalize thN L E n d p q = tn at *
    generalize thD n d q = td at *
    generalize ((2 * (trp (L * d) n : Int) - 1) * E) = r1 at *
    generalize trp (L * d) n = t1 at *
    go_enter Try.func27, Try.ntmps27
    go_upto_region 1 with fail
    change Code.wp _ _ _ _ (((((w.alloc (.cells #[.int .i64 L, .int .i64 E] 31)).alloc (.cells #[.int .i64 n, .int .i64 d] 28)).alloc (.cells #[.int .i64 p, .int .i64 q] 28)).alloc (.cells #[.int .i64 r, .int .i64 s] 28)).alloc (.cells #[.int .i64 0, .int .i64 0] 28))
    generalize hV : (((((w.alloc (.cells #[.int .i64 L, .int .i64 E] 31)).alloc (.cells #[.int .i64 n, .int .i64 d] 28)).alloc (.cells #[.int .i64 p, .int .i64 q] 28)).alloc (.cells #[.int .i64 r, .int .i64 s] 28)).alloc (.cells #[.int .i64 0, .int .i64 0] 28)) = V
    have c1 : V.cell? ⟨w.heap.size, 0, none⟩ = some (.int .i64 L) := by subst hV; simp [go_sem]
    have c2 : V.cell? ⟨w.heap.size, 1, none⟩ = some (.int .i64 E) := by subst hV; simp [go_sem]
    have c3 : V.cell? ⟨w.heap.size + 1, 0, none⟩ = some (.int .i64 n) := by subst hV; simp [go_sem]
    have c4 : V.cell? ⟨w.heap.size + 1, 1, none⟩ = some (.int .i64 d) := by subst hV; simp [go_sem]
    have c5 : V.cell? ⟨w.heap.size + 1 + 1, 0, none⟩ = some (.int .i64 p) := by subst hV; simp [go_sem]
    have c6 : V.cell? ⟨w.heap.size + 1 + 1, 1, none⟩ = some (.int .i64 q) := by subst hV; simp [go_sem]
    have c7 : V.cell? ⟨w.heap.size + 1 + 1 + 1, 0, none⟩ = some (.int .i64 r) := by subst hV; simp [go_sem]
    have c8 : V.cell? ⟨w.heap.size + 1 + 1 + 1, 1, none⟩ = some (.int .i64 s) := by subst hV; simp [go_sem]
    have hr0 : HasRes (w.heap.size + 1 + 1 + 1 + 1) V := ⟨.int .i64 0, .int .i64 0, by subst hV; simp [go_sem], by subst hV; simp [go_sem], by subst hV; simp [go_sem], by subst hV; simp [go_sem], by subst hV; simp⟩
    have hs0 : w.heap.size + 1 + 1 + 1 + 1 < V.heap.size := by subst hV; simp
    have hbw : Below w.heap.size w V := by subst hV; (repeat (first | with_reducible exact Below.refl _ _ | with_reducible assumption | with_reducible refine balloc ?_ _ | with_reducible refine bdrew ?_ | with_reducible refine below_drewN ?_ _ | with_reducible refine bset ?_ ?_ _ | with_reducible exact Nat.le_refl _ | with_reducible refine bsize ?_ | (dsimp only; refine Nat.le_trans ?_ (Nat.le_add_right _ _)) | with_reducible refine Nat.le_trans ?_ (Nat.le_add_right _ _) | (with_reducible refine bstep ?_ (by assumption))))
    clear hV
    go_wp2_with fail
    refine (HC.out _).mono ?_
    rintro e w1 ⟨rfl, hb1⟩
    have f0 : Below V.heap.size V w1 := bstep (by (repeat (first | with_reducible exact Below.refl _ _ | with_reducible assumption | with_reducible refine balloc ?_ _ | with_reducible refine bdrew ?_ | with_reducible refine below_drewN ?_ _ | with_reducible refine bset ?_ ?_ _ | with_reducible exact Nat.le_refl _ | with_reducible refine bsize ?_ | (dsimp only; refine Nat.le_trans ?_ (Nat.le_add_right _ _)) | with_reducible refine Nat.le_trans ?_ (Nat.le_add_right _ _) | (with_reducible refine bstep ?_ (by assumption))))) hb1
    replace c1 := keepa f0 (by omega) c1
    replace c2 := keepa f0 (by omega) c2
    replace c3 := keepa f0 (by omega) c3
    replace c4 := keepa f0 (by omega) c4
    replace c5 := keepa f0 (by omega) c5
    replace c6 := keepa f0 (by omega) c6
    replace c7 := keepa f0 (by omega) c7
    replace c8 := keepa f0 (by omega) c8
    replace hr0 := hr0.later f0
    replace hbw := bstep hbw f0
    replace hs0 := Nat.lt_of_lt_of_le hs0 f0.size
    clear f0 hb1
    go_upto_region 3 with fail
    go_cut [10] (fun s10 wx => ∃ gb : Nat, s10 = .pointer (some ⟨gb, 0, none⟩) ∧ wx.cell? ⟨gb, 0, none⟩ = some (.int .i64 tn) ∧ wx.cell? ⟨gb, 1, none⟩ = some (.int .i64 td) ∧ gb < wx.heap.size ∧ Below w1.heap.size w1 wx)
    case first =>
      have hS := Lib.hid (fun (W : World) (h : Below w1.heap.size w1 W) => (⟨h, keepa h (by omega) c1, keepa h (by omega) c2, keepa h (by omega) c3, keepa h (by omega) c4, keepa h (by omega) c5, keepa h (by omega) c6⟩ : Below w1.heap.size w1 W ∧ W.cell? ⟨w.heap.size, 0, none⟩ = some (.int .i64 L) ∧ W.cell? ⟨w.heap.size, 1, none⟩ = some (.int .i64 E) ∧ W.cell? ⟨w.heap.size + 1, 0, none⟩ = some (.int .i64 n) ∧ W.cell? ⟨w.heap.size + 1, 1, none⟩ = some (.int .i64 d) ∧ W.cell? ⟨w.heap.size + 1 + 1, 0, none⟩ = some (.int .i64 p) ∧ W.cell? ⟨w.heap.size + 1 + 1, 1, none⟩ = some (.int .i64 q)))
      go_region_held3 (fun W => Below w1.heap.size w1 W ∧ W.cell? ⟨w.heap.size, 0, none⟩ = some (.int .i64 L) ∧ W.cell? ⟨w.heap.size, 1, none⟩ = some (.int .i64 E) ∧ W.cell? ⟨w.heap.size + 1, 0, none⟩ = some (.int .i64 n) ∧ W.cell? ⟨w.heap.size + 1, 1, none⟩ = some (.int .i64 d) ∧ W.cell? ⟨w.heap.size + 1 + 1, 0, none⟩ = some (.int .i64 p) ∧ W.cell? ⟨w.heap.size + 1 + 1, 1, none⟩ = some (.int .i64 q)) ((refine hS.out _ ?_; first | with_reducible assumption | ((repeat (first | with_reducible exact Below.refl _ _ | with_reducible assumption | with_reducible refine balloc ?_ _ | with_reducible refine bdrew ?_ | with_reducible refine below_drewN ?_ _ | with_reducible refine bset ?_ ?_ _ | with_reducible exact Nat.le_refl _ | with_reducible refine bsize ?_ | (dsimp only; refine Nat.le_trans ?_ (Nat.le_add_right _ _)) | with_reducible refine Nat.le_trans ?_ (Nat.le_add_right _ _) | (with_reducible refine bstep ?_ (by assumption)))); done))) (first | (go_at_call 51; refine (HT.out _).mono ?_; rintro e w3 ⟨rfl, hb3⟩; (try have fr := HasRes.later (by first | with_reducible assumption | with_reducible exact HasRes.drew (by with_reducible assumption) | exact HasRes.newd _ _ _ _ | exact HasRes.new _ _ _ _ | exact HasRes.drew (HasRes.newd _ _ _ _) | exact HasRes.drew (HasRes.new _ _ _ _)) hb3); (try (have fr2 := fr; obtain ⟨rx, ry, y1, y2, y3, y4, y5⟩ := fr2)); (have f0 := bstep (by first | with_reducible assumption | ((repeat (first | with_reducible exact Below.refl _ _ | with_reducible assumption | with_reducible refine balloc ?_ _ | with_reducible refine bdrew ?_ | with_reducible refine below_drewN ?_ _ | with_reducible refine bset ?_ ?_ _ | with_reducible exact Nat.le_refl _ | with_reducible refine bsize ?_ | (dsimp only; refine Nat.le_trans ?_ (Nat.le_add_right _ _)) | with_reducible refine Nat.le_trans ?_ (Nat.le_add_right _ _) | (with_reducible refine bstep ?_ (by assumption)))); done) : Below w1.heap.size w1 _) hb3); (have f1 := hS.out _ f0); go_split_ands) | (go_at_call 50; refine (HR.out _).mono ?_; rintro e w3 ⟨rfl, hb3⟩; (try have fr := HasRes.later (by first | with_reducible assumption | with_reducible exact HasRes.drew (by with_reducible assumption) | exact HasRes.newd _ _ _ _ | exact HasRes.new _ _ _ _ | exact HasRes.drew (HasRes.newd _ _ _ _) | exact HasRes.drew (HasRes.new _ _ _ _)) hb3); (try (have fr2 := fr; obtain ⟨rx, ry, y1, y2, y3, y4, y5⟩ := fr2)); (have f0 := bstep (by first | with_reducible assumption | ((repeat (first | with_reducible exact Below.refl _ _ | with_reducible assumption | with_reducible refine balloc ?_ _ | with_reducible refine bdrew ?_ | with_reducible refine below_drewN ?_ _ | with_reducible refine bset ?_ ?_ _ | with_reducible exact Nat.le_refl _ | with_reducible refine bsize ?_ | (dsimp only; refine Nat.le_trans ?_ (Nat.le_add_right _ _)) | with_reducible refine Nat.le_trans ?_ (Nat.le_add_right _ _) | (with_reducible refine bstep ?_ (by assumption)))); done) : Below w1.heap.size w1 _) hb3); (have f1 := hS.out _ f0); go_split_ands) | (go_at_call 49; refine (HO.out _).mono ?_; rintro e w3 ⟨rfl, hb3⟩; (try have fr := HasRes.later (by first | with_reducible assumption | with_reducible exact HasRes.drew (by with_reducible assumption) | exact HasRes.newd _ _ _ _ | exact HasRes.new _ _ _ _ | exact HasRes.drew (HasRes.newd _ _ _ _) | exact HasRes.drew (HasRes.new _ _ _ _)) hb3); (try (have fr2 := fr; obtain ⟨rx, ry, y1, y2, y3, y4, y5⟩ := fr2)); (have f0 := bstep (by first | with_reducible assumption | ((repeat (first | with_reducible exact Below.refl _ _ | with_reducible assumption | with_reducible refine balloc ?_ _ | with_reducible refine bdrew ?_ | with_reducible refine below_drewN ?_ _ | with_reducible refine bset ?_ ?_ _ | with_reducible exact Nat.le_refl _ | with_reducible refine bsize ?_ | (dsimp only; refine Nat.le_trans ?_ (Nat.le_add_right _ _)) | with_reducible refine Nat.le_trans ?_ (Nat.le_add_right _ _) | (with_reducible refine bstep ?_ (by assumption)))); done) : Below w1.heap.size w1 _) hb3); (have f1 := hS.out _ f0); go_split_ands))
      all_goals (go_wp2_with fail; go_meet)
      all_goals refine ⟨_, rfl, ?_, ?_, ?_, ?_⟩
      all_goals first | ((repeat (first | with_reducible exact Below.refl _ _ | with_reducible assumption | with_reducible refine balloc ?_ _ | with_reducible refine bdrew ?_ | with_reducible refine below_drewN ?_ _ | with_reducible refine bset ?_ ?_ _ | with_reducible exact Nat.le_refl _ | with_reducible refine bsize ?_ | (dsimp only; refine Nat.le_trans ?_ (Nat.le_add_right _ _)) | with_reducible refine Nat.le_trans ?_ (Nat.le_add_right _ _) | (with_reducible refine bstep ?_ (by assumption)))); done) | (simp [go_sem, y1, y2, y3, y4, y5]; done) | (simp [go_sem]; done) | (simp; omega)
    case rest =>
      obtain ⟨gb, rfl, d0, d1, dz, hf⟩ := hcut
      replace c1 := keepa hf (by omega) c1
      replace c2 := keepa hf (by omega) c2
      replace c3 := keepa hf (by omega) c3
      replace c4 := keepa hf (by omega) c4
      replace c5 := keepa hf (by omega) c5
      replace c6 := keepa hf (by omega) c6
      replace c7 := keepa hf (by omega) c7
      replace c8 := keepa hf (by omega) c8
      replace hr0 := hr0.later hf
      replace hbw := bstep hbw hf
      replace hs0 := Nat.lt_of_lt_of_le hs0 hf.size
      clear hf
      go_upto_region 6 with fail
      go_cut [11] (fun s11 wx => s11 = .int .i64 r2 ∧ Below wc.heap.size wc wx)
      case first =>
        have hS := Lib.hid (fun (W : World) (h : Below wc.heap.size wc W) => (⟨h, keepa h (by omega) c1, keepa h (by omega) c2, keepa h dz d0, keepa h dz d1⟩ : Below wc.heap.size wc W ∧ W.cell? ⟨w.heap.size, 0, none⟩ = some (.int .i64 L) ∧ W.cell? ⟨w.heap.size, 1, none⟩ = some (.int .i64 E) ∧ W.cell? ⟨gb, 0, none⟩ = some (.int .i64 tn) ∧ W.cell? ⟨gb, 1, none⟩ = some (.int .i64 td)))
        go_region_held3 (fun W => Below wc.heap.size wc W ∧ W.cell? ⟨w.heap.size, 0, none⟩ = some (.int .i64 L) ∧ W.cell? ⟨w.heap.size, 1, none⟩ = some (.int .i64 E) ∧ W.cell? ⟨gb, 0, none⟩ = some (.int .i64 tn) ∧ W.cell? ⟨gb, 1, none⟩ = some (.int .i64 td)) ((refine hS.out _ ?_; first | with_reducible assumption | ((repeat (first | with_reducible exact Below.refl _ _ | with_reducible assumption | with_reducible refine balloc ?_ _ | with_reducible refine bdrew ?_ | with_reducible refine below_drewN ?_ _ | with_reducible refine bset ?_ ?_ _ | with_reducible exact Nat.le_refl _ | with_reducible refine bsize ?_ | (dsimp only; refine Nat.le_trans ?_ (Nat.le_add_right _ _)) | with_reducible refine Nat.le_trans ?_ (Nat.le_add_right _ _) | (with_reducible refine bstep ?_ (by assumption)))); done))) (first | (go_at_call 51; refine (HT2.out _).mono ?_; rintro e w3 ⟨rfl, hb3⟩; (have f0 := bstep (by first | with_reducible assumption | ((repeat (first | with_reducible exact Below.refl _ _ | with_reducible assumption | with_reducible refine balloc ?_ _ | with_reducible refine bdrew ?_ | with_reducible refine below_drewN ?_ _ | with_reducible refine bset ?_ ?_ _ | with_reducible exact Nat.le_refl _ | with_reducible refine bsize ?_ | (dsimp only; refine Nat.le_trans ?_ (Nat.le_add_right _ _)) | with_reducible refine Nat.le_trans ?_ (Nat.le_add_right _ _) | (with_reducible refine bstep ?_ (by assumption)))); done) : Below wc.heap.size wc _) hb3); (have f1 := hS.out _ f0); go_split_ands) | (go_at_call 50; refine (HR2.out _).mono ?_; rintro e w3 ⟨rfl, hb3⟩; (have f0 := bstep (by first | with_reducible assumption | ((repeat (first | with_reducible exact Below.refl _ _ | with_reducible assumption | with_reducible refine balloc ?_ _ | with_reducible refine bdrew ?_ | with_reducible refine below_drewN ?_ _ | with_reducible refine bset ?_ ?_ _ | with_reducible exact Nat.le_refl _ | with_reducible refine bsize ?_ | (dsimp only; refine Nat.le_trans ?_ (Nat.le_add_right _ _)) | with_reducible refine Nat.le_trans ?_ (Nat.le_add_right _ _) | (with_reducible refine bstep ?_ (by assumption)))); done) : Below wc.heap.size wc _) hb3); (have f1 := hS.out _ f0); go_split_ands))
        all_goals (go_wp2_with fail; go_meet)
        all_goals exact ⟨rfl, by (repeat (first | with_reducible exact Below.refl _ _ | with_reducible assumption | with_reducible refine balloc ?_ _ | with_reducible refine bdrew ?_ | with_reducible refine below_drewN ?_ _ | with_reducible refine bset ?_ ?_ _ | with_reducible exact Nat.le_refl _ | with_reducible refine bsize ?_ | (dsimp only; refine Nat.le_trans ?_ (Nat.le_add_right _ _)) | with_reducible refine Nat.le_trans ?_ (Nat.le_add_right _ _) | (with_reducible refine bstep ?_ (by assumption))))⟩
      case rest =>
        obtain ⟨rfl, hf⟩ := hcut
        replace c1 := keepa hf (by omega) c1
        replace c2 := keepa hf (by omega) c2
        replace c3 := keepa hf (by omega) c3
        replace c4 := keepa hf (by omega) c4
        replace c5 := keepa hf (by omega) c5
        replace c6 := keepa hf (by omega) c6
        replace c7 := keepa hf (by omega) c7
        replace c8 := keepa hf (by omega) c8
        replace hr0 := hr0.later hf
        replace hbw := bstep hbw hf
        replace hs0 := Nat.lt_of_lt_of_le hs0 hf.size
        replace d0 := keepa hf dz d0
        replace d1 := keepa hf dz d1
        replace dz := Nat.lt_of_lt_of_le dz hf.size
        clear hf
        go_wp2_with fail
        refine (HO2.out _).mono ?_
        rintro e w7 ⟨rfl, hb7⟩
        have f7 : Below wc.heap.size wc w7 := bstep (by (repeat (first | with_reducible exact Below.refl _ _ | with_reducible assumption | with_reducible refine balloc ?_ _ | with_reducible refine bdrew ?_ | with_reducible refine below_drewN ?_ _ | with_reducible refine bset ?_ ?_ _ | with_reducible exact Nat.le_refl _ | with_reducible refine bsize ?_ | (dsimp only; refine Nat.le_trans ?_ (Nat.le_add_right _ _)) | with_reducible refine Nat.le_trans ?_ (Nat.le_add_right _ _) | (with_reducible refine bstep ?_ (by assumption))))) hb7
        replace hr0 := hr0.later f7
        replace hbw := bstep hbw f7
        clear f7 hb7 c1 c2 c3 c4 c5 c6 c7 c8 d0 d1 dz hs0
        go_wp2_with fail
        refine (HM.out _).mono ?_
        rintro e w8 ⟨rfl, hb8⟩
        have f8 : Below w7.heap.size w7 w8 := bstep (by (repeat (first | with_reducible exact Below.refl _ _ | with_reducible assumption | with_reducible refine balloc ?_ _ | with_reducible refine bdrew ?_ | with_reducible refine below_drewN ?_ _ | with_reducible refine bset ?_ ?_ _ | with_reducible exact Nat.le_refl _ | with_reducible refine bsize ?_ | (dsimp only; refine Nat.le_trans ?_ (Nat.le_add_right _ _)) | with_reducible refine Nat.le_trans ?_ (Nat.le_add_right _ _) | (with_reducible refine bstep ?_ (by assumption))))) hb8
        replace hr0 := hr0.later f8
        replace hbw := bstep hbw f8
        clear f8 hb8
        obtain ⟨rx, ry, z1, z2, z3, z4, z5⟩ := hr0
        go_wp2
        refine bodyPost_ret (v := .tuple #[.agg #[.int .i64 (lowN (X) (M)), .int .i64 (lowD (X) (M))], .bool (lowB (X) (M))]) (by simp only [results, Try.results27]; go_simp) rfl ⟨rfl, ?_⟩
        (repeat (first | with_reducible exact Below.refl _ _ | with_reducible assumption | with_reducible refine balloc ?_ _ | with_reducible refine bdrew ?_ | with_reducible refine below_drewN ?_ _ | with_reducible refine bset ?_ ?_ _ | with_reducible exact Nat.le_refl _ | with_reducible refine bsize ?_ | (dsimp only; refine Nat.le_trans ?_ (Nat.le_add_right _ _)) | with_reducible refine Nat.le_trans ?_ (Nat.le_add_right _ _) | (with_reducible refine bstep ?_ (by assumption))))
  · rw [decide_eq_false hc, (two_no _ _).1, (two_no _ _).2.1, (two_no _ _).2.2]
    have hsg := sg_gt (p * s - r * q) (by omega)
    rw [hsg] at HC
    clear hsg hc
    go_enter Try.func27, Try.ntmps27
    go_upto_region 1 with fail
    change Code.wp _ _ _ _ (((((w.alloc (.cells #[.int .i64 L, .int .i64 E] 31)).alloc (.cells #[.int .i64 n, .int .i64 d] 28)).alloc (.cells #[.int .i64 p, .int .i64 q] 28)).alloc (.cells #[.int .i64 r, .int .i64 s] 28)).alloc (.cells #[.int .i64 0, .int .i64 0] 28))
    generalize hV : (((((w.alloc (.cells #[.int .i64 L, .int .i64 E] 31)).alloc (.cells #[.int .i64 n, .int .i64 d] 28)).alloc (.cells #[.int .i64 p, .int .i64 q] 28)).alloc (.cells #[.int .i64 r, .int .i64 s] 28)).alloc (.cells #[.int .i64 0, .int .i64 0] 28)) = V
    have c1 : V.cell? ⟨w.heap.size, 0, none⟩ = some (.int .i64 L) := by subst hV; simp [go_sem]
    have c2 : V.cell? ⟨w.heap.size, 1, none⟩ = some (.int .i64 E) := by subst hV; simp [go_sem]
    have c3 : V.cell? ⟨w.heap.size + 1, 0, none⟩ = some (.int .i64 n) := by subst hV; simp [go_sem]
    have c4 : V.cell? ⟨w.heap.size + 1, 1, none⟩ = some (.int .i64 d) := by subst hV; simp [go_sem]
    have c5 : V.cell? ⟨w.heap.size + 1 + 1, 0, none⟩ = some (.int .i64 p) := by subst hV; simp [go_sem]
    have c6 : V.cell? ⟨w.heap.size + 1 + 1, 1, none⟩ = some (.int .i64 q) := by subst hV; simp [go_sem]
    have c7 : V.cell? ⟨w.heap.size + 1 + 1 + 1, 0, none⟩ = some (.int .i64 r) := by subst hV; simp [go_sem]
    have c8 : V.cell? ⟨w.heap.size + 1 + 1 + 1, 1, none⟩ = some (.int .i64 s) := by subst hV; simp [go_sem]
    have hr0 : HasRes (w.heap.size + 1 + 1 + 1 + 1) V := ⟨.int .i64 0, .int .i64 0, by subst hV; simp [go_sem], by subst hV; simp [go_sem], by subst hV; simp [go_sem], by subst hV; simp [go_sem], by subst hV; simp⟩
    have hs0 : w.heap.size + 1 + 1 + 1 + 1 < V.heap.size := by subst hV; simp
    have hbw : Below w.heap.size w V := by subst hV; (repeat (first | with_reducible exact Below.refl _ _ | with_reducible assumption | with_reducible refine balloc ?_ _ | with_reducible refine bdrew ?_ | with_reducible refine below_drewN ?_ _ | with_reducible refine bset ?_ ?_ _ | with_reducible exact Nat.le_refl _ | with_reducible refine bsize ?_ | (dsimp only; refine Nat.le_trans ?_ (Nat.le_add_right _ _)) | with_reducible refine Nat.le_trans ?_ (Nat.le_add_right _ _) | (with_reducible refine bstep ?_ (by assumption))))
    clear hV
    go_wp2_with fail
    refine (HC.out _).mono ?_
    rintro e w1 ⟨rfl, hb1⟩
    have f0 : Below V.heap.size V w1 := bstep (by (repeat (first | with_reducible exact Below.refl _ _ | with_reducible assumption | with_reducible refine balloc ?_ _ | with_reducible refine bdrew ?_ | with_reducible refine below_drewN ?_ _ | with_reducible refine bset ?_ ?_ _ | with_reducible exact Nat.le_refl _ | with_reducible refine bsize ?_ | (dsimp only; refine Nat.le_trans ?_ (Nat.le_add_right _ _)) | with_reducible refine Nat.le_trans ?_ (Nat.le_add_right _ _) | (with_reducible refine bstep ?_ (by assumption))))) hb1
    replace c1 := keepa f0 (by omega) c1
    replace c2 := keepa f0 (by omega) c2
    replace c3 := keepa f0 (by omega) c3
    replace c4 := keepa f0 (by omega) c4
    replace c5 := keepa f0 (by omega) c5
    replace c6 := keepa f0 (by omega) c6
    replace c7 := keepa f0 (by omega) c7
    replace c8 := keepa f0 (by omega) c8
    replace hr0 := hr0.later f0
    replace hbw := bstep hbw f0
    replace hs0 := Nat.lt_of_lt_of_le hs0 f0.size
    clear f0 hb1
    obtain ⟨rx, ry, z1, z2, z3, z4, z5⟩ := hr0
    go_wp2
    refine bodyPost_ret (v := .tuple #[.agg #[.int .i64 0, .int .i64 0], .bool false]) (by simp only [results, Try.results27]; go_simp) rfl ⟨rfl, ?_⟩
    (repeat (first | with_reducible exact Below.refl _ _ | with_reducible assumption | with_reducible refine balloc ?_ _ | with_reducible refine bdrew ?_ | with_reducible refine below_drewN ?_ _ | with_reducible refine bset ?_ ?_ _ | with_reducible exact Nat.le_refl _ | with_reducible refine bsize ?_ | (dsimp only; refine Nat.le_trans ?_ (Nat.le_add_right _ _)) | with_reducible refine Nat.le_trans ?_ (Nat.le_add_right _ _) | (with_reducible refine bstep ?_ (by assumption))))
end Go.Proofs.Ytgmgifgbalcngaa

/- Camels: OneStop on both sides, at all arguments. -/
namespace Go.Proofs.Ytgmgifgbalcngaa
open Go.ChangeShapes Go.WideShapes Go.ChangeAt Go.RowKit Go.Joins
set_option maxRecDepth 100000
set_option linter.unusedVariables false
set_option linter.unusedSimpArgs false

set_option maxHeartbeats 1600000 in
theorem oneStop_impl (L E n d p q r s : Int) (bn : -9223372036854775808 ≤ n ∧ n ≤ 9223372036854775807) (bd : -9223372036854775808 ≤ d ∧ d ≤ 9223372036854775807) (bp : -9223372036854775808 ≤ p ∧ p ≤ 9223372036854775807) (bq : -9223372036854775808 ≤ q ∧ q ≤ 9223372036854775807) (br : -9223372036854775808 ≤ r ∧ r ≤ 9223372036854775807) (bs : -9223372036854775808 ≤ s ∧ s ≤ 9223372036854775807) (w : World) :
    Calls Try.prog 33 #[.agg #[.int .i64 L, .int .i64 E], .agg #[.int .i64 n, .int .i64 d], .agg #[.int .i64 p, .int .i64 q], .agg #[.int .i64 r, .int .i64 s]] w fun e w' => e = .returned (.tuple #[.agg #[.int .i64 (twoN (osK L E n d p q r s) (osX L E n d p q r s) (osM L E n d p q r s)), .int .i64 (twoD (osK L E n d p q r s) (osX L E n d p q r s) (osM L E n d p q r s))], .bool (twoB (osK L E n d p q r s) (osX L E n d p q r s) (osM L E n d p q r s))]) ∧ Below w.heap.size w w' := by
  have HA := Lib.hid (fun W => ask_impl L E n d bn bd W)
  have HP := Lib.hid (fun W => place_impl p q bp bq W)
  have HQ := Lib.hid (fun W => place_impl r s br bs W)
  cases h1 : askB L E n d
  · obtain ⟨e1, e2, e3⟩ := no_low (osK L E n d p q r s) (osX L E n d p q r s) (osM L E n d p q r s) (by simp [osK, h1])
    rw [e1, e2, e3]
    clear e1 e2 e3
    rw [h1] at HA
    clear h1
    go_enter Try.func33, Try.ntmps33
    (go_wp2_with fail; refine (HA.out _).mono ?_; rintro e w1 ⟨rfl, hb1⟩; have ha1 := hb1; obtain ⟨kc1, kf1, kz1, ky1, kx1, kv1, ku1⟩ := bcell hb1)
    go_wp2
    refine bodyPost_ret (v := .tuple #[.agg #[.int .i64 0, .int .i64 0], .bool false]) (by simp only [results, Try.results33]; go_simp) rfl ⟨rfl, ?_⟩
    (repeat (first | with_reducible exact Below.refl _ _ | with_reducible assumption | with_reducible refine balloc ?_ _ | with_reducible refine bdrew ?_ | with_reducible refine below_drewN ?_ _ | with_reducible refine bset ?_ ?_ _ | with_reducible exact Nat.le_refl _ | with_reducible refine bsize ?_ | (dsimp only; refine Nat.le_trans ?_ (Nat.le_add_right _ _)) | with_reducible refine Nat.le_trans ?_ (Nat.le_add_right _ _) | (with_reducible refine bstep ?_ (by assumption))))
  cases h2 : plB p q
  · obtain ⟨e1, e2, e3⟩ := no_low (osK L E n d p q r s) (osX L E n d p q r s) (osM L E n d p q r s) (by simp [osK, h2])
    rw [e1, e2, e3]
    clear e1 e2 e3
    rw [h1] at HA
    rw [h2] at HP
    clear h1 h2
    go_enter Try.func33, Try.ntmps33
    (go_wp2_with fail; refine (HA.out _).mono ?_; rintro e w1 ⟨rfl, hb1⟩; have ha1 := hb1; obtain ⟨kc1, kf1, kz1, ky1, kx1, kv1, ku1⟩ := bcell hb1)
    (go_wp2_with fail; refine (HP.out _).mono ?_; rintro e w2 ⟨rfl, hb2⟩; have ha2 := bjoin ha1 hb2 (by (repeat (first | with_reducible exact Below.refl _ _ | with_reducible assumption | with_reducible refine balloc ?_ _ | with_reducible refine bdrew ?_ | with_reducible refine below_drewN ?_ _ | with_reducible refine bset ?_ ?_ _ | with_reducible exact Nat.le_refl _ | with_reducible refine bsize ?_ | (dsimp only; refine Nat.le_trans ?_ (Nat.le_add_right _ _)) | with_reducible refine Nat.le_trans ?_ (Nat.le_add_right _ _) | (with_reducible refine bstep ?_ (by assumption))))); obtain ⟨kc2, kf2, kz2, ky2, kx2, kv2, ku2⟩ := bcell hb2; obtain ⟨jc2, jf2, jz2, jy2, jx2, jv2, ju2⟩ := bcell ha2)
    go_wp2
    refine bodyPost_ret (v := .tuple #[.agg #[.int .i64 0, .int .i64 0], .bool false]) (by simp only [results, Try.results33]; go_simp) rfl ⟨rfl, ?_⟩
    (repeat (first | with_reducible exact Below.refl _ _ | with_reducible assumption | with_reducible refine balloc ?_ _ | with_reducible refine bdrew ?_ | with_reducible refine below_drewN ?_ _ | with_reducible refine bset ?_ ?_ _ | with_reducible exact Nat.le_refl _ | with_reducible refine bsize ?_ | (dsimp only; refine Nat.le_trans ?_ (Nat.le_add_right _ _)) | with_reducible refine Nat.le_trans ?_ (Nat.le_add_right _ _) | (with_reducible refine bstep ?_ (by assumption))))
  cases h3 : plB r s
  · obtain ⟨e1, e2, e3⟩ := no_low (osK L E n d p q r s) (osX L E n d p q r s) (osM L E n d p q r s) (by simp [osK, h3])
    rw [e1, e2, e3]
    clear e1 e2 e3
    rw [h1] at HA
    rw [h2] at HP
    rw [h3] at HQ
    clear h1 h2 h3
    go_enter Try.func33, Try.ntmps33
    (go_wp2_with fail; refine (HA.out _).mono ?_; rintro e w1 ⟨rfl, hb1⟩; have ha1 := hb1; obtain ⟨kc1, kf1, kz1, ky1, kx1, kv1, ku1⟩ := bcell hb1)
    have r1 : w1.cell? ⟨w.heap.size + 1 + 1 + 1 + 1, 0, none⟩ = some (.int .i64 0) := (by rw [kc1 (w.heap.size + 1 + 1 + 1 + 1) _ (by first | (simp; done) | (simp; omega))]; first | (simp; done) | (simp [go_sem]; done)); have r2 : w1.cell? ⟨w.heap.size + 1 + 1 + 1 + 1, 1, none⟩ = some (.int .i64 0) := (by rw [kc1 (w.heap.size + 1 + 1 + 1 + 1) _ (by first | (simp; done) | (simp; omega))]; first | (simp; done) | (simp [go_sem]; done)); have r3 : w1.frozen? ⟨w.heap.size + 1 + 1 + 1 + 1, 0, none⟩ = false := (by rw [kf1 (w.heap.size + 1 + 1 + 1 + 1) _ (by first | (simp; done) | (simp; omega))]; first | (simp; done) | (simp [go_sem]; done)); have r4 : w1.frozen? ⟨w.heap.size + 1 + 1 + 1 + 1, 1, none⟩ = false := (by rw [kf1 (w.heap.size + 1 + 1 + 1 + 1) _ (by first | (simp; done) | (simp; omega))]; first | (simp; done) | (simp [go_sem]; done)); have rz : w.heap.size + 1 + 1 + 1 + 1 < w1.heap.size := kz1 (w.heap.size + 1 + 1 + 1 + 1) (by first | (simp; done) | (simp; omega))
    (go_wp2_with fail; refine (HP.out _).mono ?_; rintro e w2 ⟨rfl, hb2⟩; have ha2 := bjoin ha1 hb2 (by (repeat (first | with_reducible exact Below.refl _ _ | with_reducible assumption | with_reducible refine balloc ?_ _ | with_reducible refine bdrew ?_ | with_reducible refine below_drewN ?_ _ | with_reducible refine bset ?_ ?_ _ | with_reducible exact Nat.le_refl _ | with_reducible refine bsize ?_ | (dsimp only; refine Nat.le_trans ?_ (Nat.le_add_right _ _)) | with_reducible refine Nat.le_trans ?_ (Nat.le_add_right _ _) | (with_reducible refine bstep ?_ (by assumption))))); obtain ⟨kc2, kf2, kz2, ky2, kx2, kv2, ku2⟩ := bcell hb2; obtain ⟨jc2, jf2, jz2, jy2, jx2, jv2, ju2⟩ := bcell ha2)
    (have rb : Below w1.heap.size w1 w2 := bstep (by (repeat (first | with_reducible exact Below.refl _ _ | with_reducible assumption | with_reducible refine balloc ?_ _ | with_reducible refine bdrew ?_ | with_reducible refine below_drewN ?_ _ | with_reducible refine bset ?_ ?_ _ | with_reducible exact Nat.le_refl _ | with_reducible refine bsize ?_ | (dsimp only; refine Nat.le_trans ?_ (Nat.le_add_right _ _)) | with_reducible refine Nat.le_trans ?_ (Nat.le_add_right _ _) | (with_reducible refine bstep ?_ (by assumption))))) hb2); replace r1 := keepa rb rz r1; replace r2 := keepa rb rz r2; replace r3 := keepz rb rz r3; replace r4 := keepz rb rz r4; replace rz := Nat.lt_of_lt_of_le rz rb.size; clear rb
    (go_wp2_with fail; refine (HQ.out _).mono ?_; rintro e w3 ⟨rfl, hb3⟩; (have ha3 : Below w.heap.size w w3 := by (repeat (first | with_reducible exact Below.refl _ _ | with_reducible assumption | with_reducible refine balloc ?_ _ | with_reducible refine bdrew ?_ | with_reducible refine below_drewN ?_ _ | with_reducible refine bset ?_ ?_ _ | with_reducible exact Nat.le_refl _ | with_reducible refine bsize ?_ | (dsimp only; refine Nat.le_trans ?_ (Nat.le_add_right _ _)) | with_reducible refine Nat.le_trans ?_ (Nat.le_add_right _ _) | (with_reducible refine bstep ?_ (by assumption))))); obtain ⟨kc3, kf3, kz3, ky3, kx3, kv3, ku3⟩ := bcell hb3)
    (have rb : Below w2.heap.size w2 w3 := bstep (by (repeat (first | with_reducible exact Below.refl _ _ | with_reducible assumption | with_reducible refine balloc ?_ _ | with_reducible refine bdrew ?_ | with_reducible refine below_drewN ?_ _ | with_reducible refine bset ?_ ?_ _ | with_reducible exact Nat.le_refl _ | with_reducible refine bsize ?_ | (dsimp only; refine Nat.le_trans ?_ (Nat.le_add_right _ _)) | with_reducible refine Nat.le_trans ?_ (Nat.le_add_right _ _) | (with_reducible refine bstep ?_ (by assumption))))) hb3); replace r1 := keepa rb rz r1; replace r2 := keepa rb rz r2; replace r3 := keepz rb rz r3; replace r4 := keepz rb rz r4; replace rz := Nat.lt_of_lt_of_le rz rb.size; clear rb
    go_wp2
    refine bodyPost_ret (v := .tuple #[.agg #[.int .i64 0, .int .i64 0], .bool false]) (by simp only [results, Try.results33]; go_simp) rfl ⟨rfl, ?_⟩
    (repeat (first | with_reducible exact Below.refl _ _ | with_reducible assumption | with_reducible refine balloc ?_ _ | with_reducible refine bdrew ?_ | with_reducible refine below_drewN ?_ _ | with_reducible refine bset ?_ ?_ _ | with_reducible exact Nat.le_refl _ | with_reducible refine bsize ?_ | (dsimp only; refine Nat.le_trans ?_ (Nat.le_add_right _ _)) | with_reducible refine Nat.le_trans ?_ (Nat.le_add_right _ _) | (with_reducible refine bstep ?_ (by assumption))))
  obtain ⟨i1, i2, i3, i4⟩ := askB_yes L E n d h1
  obtain ⟨i5, i6⟩ := plB_yes p q h2
  obtain ⟨i7, i8⟩ := plB_yes r s h3
  obtain ⟨j1, j2, j3, j4⟩ := camB_yes L E i1
  obtain ⟨x1, x2, x3, x4⟩ := am_of n d i2
  obtain ⟨y1, y2, y3, y4⟩ := am_of p q i5
  obtain ⟨v1, v2, v3, v4⟩ := am_of r s i7
  have hk : osK L E n d p q r s = decide (p * s ≤ r * q) := by unfold osK; rw [h1, h2, h3]; rfl
  have HC := Lib.hid (fun W => oneStop_m L E n d p q r s j1 j2 j3 j4 x1 x3 i3 i4 y1 y2 y3 i6 v1 v2 v3 i8 W)
  rw [os_iff E d p q r s j3 x3] at HC
  unfold osX osM
  rw [hk]
  rw [h1] at HA
  rw [h2] at HP
  rw [h3] at HQ
  generalize twoN (decide (p * s ≤ r * q)) (osB L E n d p q r s) (d * q * s) = X at *
  generalize twoD (decide (p * s ≤ r * q)) (osB L E n d p q r s) (d * q * s) = Y at *
  generalize twoB (decide (p * s ≤ r * q)) (osB L E n d p q r s) (d * q * s) = B at *
  clear hk h1 h2 h3 i1 i2 i5 i7
  go_enter Try.func33, Try.ntmps33
  (go_wp2_with fail; refine (HA.out _).mono ?_; rintro e w1 ⟨rfl, hb1⟩; have ha1 := hb1; obtain ⟨kc1, kf1, kz1, ky1, kx1, kv1, ku1⟩ := bcell hb1)
  have r1 : w1.cell? ⟨w.heap.size + 1 + 1 + 1 + 1, 0, none⟩ = some (.int .i64 0) := (by rw [kc1 (w.heap.size + 1 + 1 + 1 + 1) _ (by first | (simp; done) | (simp; omega))]; first | (simp; done) | (simp [go_sem]; done)); have r2 : w1.cell? ⟨w.heap.size + 1 + 1 + 1 + 1, 1, none⟩ = some (.int .i64 0) := (by rw [kc1 (w.heap.size + 1 + 1 + 1 + 1) _ (by first | (simp; done) | (simp; omega))]; first | (simp; done) | (simp [go_sem]; done)); have r3 : w1.frozen? ⟨w.heap.size + 1 + 1 + 1 + 1, 0, none⟩ = false := (by rw [kf1 (w.heap.size + 1 + 1 + 1 + 1) _ (by first | (simp; done) | (simp; omega))]; first | (simp; done) | (simp [go_sem]; done)); have r4 : w1.frozen? ⟨w.heap.size + 1 + 1 + 1 + 1, 1, none⟩ = false := (by rw [kf1 (w.heap.size + 1 + 1 + 1 + 1) _ (by first | (simp; done) | (simp; omega))]; first | (simp; done) | (simp [go_sem]; done)); have rz : w.heap.size + 1 + 1 + 1 + 1 < w1.heap.size := kz1 (w.heap.size + 1 + 1 + 1 + 1) (by first | (simp; done) | (simp; omega))
  (go_wp2_with fail; refine (HP.out _).mono ?_; rintro e w2 ⟨rfl, hb2⟩; have ha2 := bjoin ha1 hb2 (by (repeat (first | with_reducible exact Below.refl _ _ | with_reducible assumption | with_reducible refine balloc ?_ _ | with_reducible refine bdrew ?_ | with_reducible refine below_drewN ?_ _ | with_reducible refine bset ?_ ?_ _ | with_reducible exact Nat.le_refl _ | with_reducible refine bsize ?_ | (dsimp only; refine Nat.le_trans ?_ (Nat.le_add_right _ _)) | with_reducible refine Nat.le_trans ?_ (Nat.le_add_right _ _) | (with_reducible refine bstep ?_ (by assumption))))); obtain ⟨kc2, kf2, kz2, ky2, kx2, kv2, ku2⟩ := bcell hb2; obtain ⟨jc2, jf2, jz2, jy2, jx2, jv2, ju2⟩ := bcell ha2)
  (have rb : Below w1.heap.size w1 w2 := bstep (by (repeat (first | with_reducible exact Below.refl _ _ | with_reducible assumption | with_reducible refine balloc ?_ _ | with_reducible refine bdrew ?_ | with_reducible refine below_drewN ?_ _ | with_reducible refine bset ?_ ?_ _ | with_reducible exact Nat.le_refl _ | with_reducible refine bsize ?_ | (dsimp only; refine Nat.le_trans ?_ (Nat.le_add_right _ _)) | with_reducible refine Nat.le_trans ?_ (Nat.le_add_right _ _) | (with_reducible refine bstep ?_ (by assumption))))) hb2); replace r1 := keepa rb rz r1; replace r2 := keepa rb rz r2; replace r3 := keepz rb rz r3; replace r4 := keepz rb rz r4; replace rz := Nat.lt_of_lt_of_le rz rb.size; clear rb
  (go_wp2_with fail; refine (HQ.out _).mono ?_; rintro e w3 ⟨rfl, hb3⟩; (have ha3 : Below w.heap.size w w3 := by (repeat (first | with_reducible exact Below.refl _ _ | with_reducible assumption | with_reducible refine balloc ?_ _ | with_reducible refine bdrew ?_ | with_reducible refine below_drewN ?_ _ | with_reducible refine bset ?_ ?_ _ | with_reducible exact Nat.le_refl _ | with_reducible refine bsize ?_ | (dsimp only; refine Nat.le_trans ?_ (Nat.le_add_right _ _)) | with_reducible refine Nat.le_trans ?_ (Nat.le_add_right _ _) | (with_reducible refine bstep ?_ (by assumption))))); obtain ⟨kc3, kf3, kz3, ky3, kx3, kv3, ku3⟩ := bcell hb3)
  (have rb : Below w2.heap.size w2 w3 := bstep (by (repeat (first | with_reducible exact Below.refl _ _ | with_reducible assumption | with_reducible refine balloc ?_ _ | with_reducible refine bdrew ?_ | with_reducible refine below_drewN ?_ _ | with_reducible refine bset ?_ ?_ _ | with_reducible exact Nat.le_refl _ | with_reducible refine bsize ?_ | (dsimp only; refine Nat.le_trans ?_ (Nat.le_add_right _ _)) | with_reducible refine Nat.le_trans ?_ (Nat.le_add_right _ _) | (with_reducible refine bstep ?_ (by assumption))))) hb3); replace r1 := keepa rb rz r1; replace r2 := keepa rb rz r2; replace r3 := keepz rb rz r3; replace r4 := keepz rb rz r4; replace rz := Nat.lt_of_lt_of_le rz rb.size; clear rb
  (go_wp2_with fail; refine (HC.out _).mono ?_; rintro e w4 ⟨rfl, hb4⟩; (have ha4 : Below w.heap.size w w4 := by (repeat (first | with_reducible exact Below.refl _ _ | with_reducible assumption | with_reducible refine balloc ?_ _ | with_reducible refine bdrew ?_ | with_reducible refine below_drewN ?_ _ | with_reducible refine bset ?_ ?_ _ | with_reducible exact Nat.le_refl _ | with_reducible refine bsize ?_ | (dsimp only; refine Nat.le_trans ?_ (Nat.le_add_right _ _)) | with_reducible refine Nat.le_trans ?_ (Nat.le_add_right _ _) | (with_reducible refine bstep ?_ (by assumption))))); obtain ⟨kc4, kf4, kz4, ky4, kx4, kv4, ku4⟩ := bcell hb4)
  (have rb : Below w3.heap.size w3 w4 := bstep (by (repeat (first | with_reducible exact Below.refl _ _ | with_reducible assumption | with_reducible refine balloc ?_ _ | with_reducible refine bdrew ?_ | with_reducible refine below_drewN ?_ _ | with_reducible refine bset ?_ ?_ _ | with_reducible exact Nat.le_refl _ | with_reducible refine bsize ?_ | (dsimp only; refine Nat.le_trans ?_ (Nat.le_add_right _ _)) | with_reducible refine Nat.le_trans ?_ (Nat.le_add_right _ _) | (with_reducible refine bstep ?_ (by assumption))))) hb4); replace r1 := keepa rb rz r1; replace r2 := keepa rb rz r2; replace r3 := keepz rb rz r3; replace r4 := keepz rb rz r4; replace rz := Nat.lt_of_lt_of_le rz rb.size; clear rb
  go_wp2
  refine bodyPost_ret (v := .tuple #[.agg #[.int .i64 X, .int .i64 Y], .bool B]) (by simp only [results, Try.results33]; go_simp) rfl ⟨rfl, ?_⟩
  (repeat (first | with_reducible exact Below.refl _ _ | with_reducible assumption | with_reducible refine balloc ?_ _ | with_reducible refine bdrew ?_ | with_reducible refine below_drewN ?_ _ | with_reducible refine bset ?_ ?_ _ | with_reducible exact Nat.le_refl _ | with_reducible refine bsize ?_ | (dsimp only; refine Nat.le_trans ?_ (Nat.le_add_right _ _)) | with_reducible refine Nat.le_trans ?_ (Nat.le_add_right _ _) | (with_reducible refine bstep ?_ (by assumption))))
end Go.Proofs.Ytgmgifgbalcngaa

/- The first stop with the most, on both sides. -/
namespace Go.Proofs.Ytgmgifgbalcngaa
open Go.ChangeShapes Go.WideShapes Go.ChangeAt Go.RowKit Go.Joins
set_option maxRecDepth 100000
set_option linter.unusedVariables false
set_option linter.unusedSimpArgs false

set_option maxHeartbeats 3200000 in
theorem best_some (N V : (Int × Int) → Int) (G : (Int × Int) → Bool) (q0 q1 q2 : Nat) (a : Addr) (cap : Nat) (l : List (Int × Int)) (w : World) (hL : LiesG 2 fAmt w a cap l) (hG : ∀ p ∈ l, G p = true → amB (N p) (V p) = true)
    (hcon : ∀ p ∈ l, ∀ W, Below w.heap.size w W → Calls Try.prog 32 #[.agg #[.int .i64 p.1, .int .i64 p.2], .pointer (some ⟨q0, 0, none⟩), .pointer (some ⟨q1, 0, none⟩), .pointer (some ⟨q2, 0, none⟩)] W fun e w' => e = .returned (.tuple #[.agg #[.int .i64 (N p), .int .i64 (V p)], .bool (G p)]) ∧ Below W.heap.size W w') :
    Calls Try.prog 31 #[.slice (some a) l.length cap, .func (.func 32) #[] #[.pointer (some ⟨q0, 0, none⟩), .pointer (some ⟨q1, 0, none⟩), .pointer (some ⟨q2, 0, none⟩)]] w fun e w' => e = .returned (.tuple #[.int .i64 (bsR N V G l).i, .agg #[.int .i64 (bsR N V G l).n, .int .i64 (bsR N V G l).d], .bool (bsR N V G l).f]) ∧ Below w.heap.size w w' := by
  have hlc := hL.hlc
  have hcap := hL.hcap
  have HC := Lib.hid hcon
  have HG := Lib.hid hG
  clear hcon hG
  go_enter Try.func31, Try.ntmps31
  go_wp2
  go_loopw [7, 9, 19] (fun ix fd i wr => ∃ (k : Nat) (s : BsV), k ≤ l.length ∧ i = .int .i64 k ∧ ix = .int .i64 s.i ∧ fd = .bool s.f ∧ Hid (BsOk s) ∧ Hid (bsF N V G (l.drop k) k s = bsR N V G l) ∧
      wr.cell? ⟨w.heap.size + 1, 0, none⟩ = some (.int .i64 s.n) ∧ wr.cell? ⟨w.heap.size + 1, 1, none⟩ = some (.int .i64 s.d) ∧ wr.frozen? ⟨w.heap.size + 1, 0, none⟩ = false ∧ wr.frozen? ⟨w.heap.size + 1, 1, none⟩ = false ∧
      wr.cell? ⟨w.heap.size, 0, none⟩ = some (.int .i64 0) ∧ wr.cell? ⟨w.heap.size, 1, none⟩ = some (.int .i64 0) ∧ wr.frozen? ⟨w.heap.size, 0, none⟩ = false ∧ wr.frozen? ⟨w.heap.size, 1, none⟩ = false ∧ w.heap.size + 1 < wr.heap.size ∧ Below w.heap.size w wr) (fun _ _ i _ => l.length - (intOf i).toNat)
  case atStart =>
    refine ⟨0, ⟨0, 0, 0, false⟩, Nat.zero_le _, rfl, rfl, rfl, Lib.hid bs_start, Lib.hid rfl, by simp [go_sem], by simp [go_sem], by simp [go_sem], by simp [go_sem], by simp [go_sem], by simp [go_sem], by simp [go_sem], by simp [go_sem], by simp, ?_⟩
    (repeat (first | with_reducible exact Below.refl _ _ | with_reducible assumption | with_reducible refine balloc ?_ _ | with_reducible refine bdrew ?_ | with_reducible refine below_drewN ?_ _ | with_reducible refine bset ?_ ?_ _ | with_reducible exact Nat.le_refl _ | with_reducible refine bsize ?_ | (dsimp only; refine Nat.le_trans ?_ (Nat.le_add_right _ _)) | with_reducible refine Nat.le_trans ?_ (Nat.le_add_right _ _) | (with_reducible refine bstep ?_ (by assumption))))
  case round =>
    obtain ⟨k, s, hk, rfl, rfl, rfl, hok, hfold, s1, s2, s3, s4, r1, r2, r3, r4, hs, hbel⟩ := hrel
    by_cases hlt : k < l.length
    · obtain ⟨p, hp⟩ : ∃ p, l[k]? = some p := ⟨_, List.getElem?_eq_getElem hlt⟩
      have hL2 := liesG_below hL hbel
      have hc := hL2.hcell k p hp
      have e0 := hc 0 p.1 rfl
      rw [Nat.add_zero] at e0
      have e1 : wr.cell? ⟨(a.add (k * 2)).block, (a.add (k * 2)).off + 1, none⟩ = some (.int .i64 p.2) := by
        have h := hc 1 p.2 rfl
        rw [← Deep.add_add] at h
        exact h
      clear hc
      have hmem := List.mem_of_getElem? hp
      have HE : Hid (∀ W, Below w.heap.size w W → Calls Try.prog 32 #[.agg #[.int .i64 p.1, .int .i64 p.2], .pointer (some ⟨q0, 0, none⟩), .pointer (some ⟨q1, 0, none⟩), .pointer (some ⟨q2, 0, none⟩)] W fun e w' => e = .returned (.tuple #[.agg #[.int .i64 (N p), .int .i64 (V p)], .bool (G p)]) ∧ Below W.heap.size W w') := Lib.hid (HC.out p hmem)
      have hgp := HG.out p hmem
      have hnx := Lib.hid (bs_next hp hfold.out)
      have hok2 := Lib.hid (bs_step N V G hok.out (k := (k : Int)) (by omega) hgp)
      have hO := hok.out
      have b0 : -9223372036854775808 ≤ s.n ∧ s.n ≤ 9223372036854775807 := by have := hO.n0; have := hO.n1; omega
      have b1 : -9223372036854775808 ≤ s.d ∧ s.d ≤ 9223372036854775807 := by have := hO.d0; have := hO.d1; omega
      have i1 : (0 : Int) ≤ (k : Int) := by omega
      have i2 : (k : Int) < (l.length : Int) := by omega
      have hs0 : w.heap.size < wr.heap.size := by omega
      clear hL2 hfold hok hmem
      cases hE : G p
      · have hst : Hid (bsStep N V G s k p = s) := Lib.hid (by unfold bsStep; rw [hE]; rfl)
        rw [hst.out] at hnx hok2
        rw [hE] at HE
        clear hst hgp hp hE HC HG hO
        generalize N p = n at *
        generalize V p = d at *
        go_wp2_with fail
        refine (HE.out _ (by (repeat (first | with_reducible exact Below.refl _ _ | with_reducible assumption | with_reducible refine balloc ?_ _ | with_reducible refine bdrew ?_ | with_reducible refine below_drewN ?_ _ | with_reducible refine bset ?_ ?_ _ | with_reducible exact Nat.le_refl _ | with_reducible refine bsize ?_ | (dsimp only; refine Nat.le_trans ?_ (Nat.le_add_right _ _)) | with_reducible refine Nat.le_trans ?_ (Nat.le_add_right _ _) | (with_reducible refine bstep ?_ (by assumption)))))).mono ?_
        rintro e w3 ⟨rfl, hb3⟩
        have f3 : Below wr.heap.size wr w3 := bstep (by (repeat (first | with_reducible exact Below.refl _ _ | with_reducible assumption | with_reducible refine balloc ?_ _ | with_reducible refine bdrew ?_ | with_reducible refine below_drewN ?_ _ | with_reducible refine bset ?_ ?_ _ | with_reducible exact Nat.le_refl _ | with_reducible refine bsize ?_ | (dsimp only; refine Nat.le_trans ?_ (Nat.le_add_right _ _)) | with_reducible refine Nat.le_trans ?_ (Nat.le_add_right _ _) | (with_reducible refine bstep ?_ (by assumption))))) hb3
        clear hb3 HE
        replace s1 := keepa f3 hs s1
        replace s2 := keepa f3 hs s2
        replace s3 := keepz f3 hs s3
        replace s4 := keepz f3 hs s4
        replace r1 := keepa f3 hs0 r1
        replace r2 := keepa f3 hs0 r2
        replace r3 := keepz f3 hs0 r3
        replace r4 := keepz f3 hs0 r4
        have z3 : w.heap.size + 1 < w3.heap.size := Nat.lt_of_lt_of_le hs f3.size
        have z4 : w.heap.size < w3.heap.size := by omega
        have hb := bstep hbel f3
        clear f3 hbel
        go_wp2
        go_roundw
        case rel =>
          refine ⟨k + 1, s, by omega, by go_num, rfl, rfl, hok2, hnx, by simp [go_sem, s1, z3], by simp [go_sem, s2, z3], by simp [go_sem, s3, z3], by simp [go_sem, s4, z3], by simp [go_sem, r1, z4], by simp [go_sem, r2, z4], by simp [go_sem, r3, z4], by simp [go_sem, r4, z4], by simp; omega, ?_⟩
          (repeat (first | with_reducible exact Below.refl _ _ | with_reducible assumption | with_reducible refine balloc ?_ _ | with_reducible refine bdrew ?_ | with_reducible refine below_drewN ?_ _ | with_reducible refine bset ?_ ?_ _ | with_reducible exact Nat.le_refl _ | with_reducible refine bsize ?_ | (dsimp only; refine Nat.le_trans ?_ (Nat.le_add_right _ _)) | with_reducible refine Nat.le_trans ?_ (Nat.le_add_right _ _) | (with_reducible refine bstep ?_ (by assumption))))
        case measure => simp [intOf]; omega
      · have ha := am_of _ _ (hgp hE)
        have b2 : -9223372036854775808 ≤ N p ∧ N p ≤ 9223372036854775807 := by have := ha.a; have := ha.b; omega
        have b3 : -9223372036854775808 ≤ V p ∧ V p ≤ 9223372036854775807 := by have := ha.c; have := ha.d; omega
        have HM := Lib.hid (fun W => compare_impl (N p) (V p) s.n s.d b2 b3 b0 b1 W)
        have hst : Hid (bsStep N V G s k p = if s.f = false ∨ 0 < cmI (N p) (V p) s.n s.d then ⟨k, N p, V p, true⟩ else s) := Lib.hid (by unfold bsStep; rw [hE]; rfl)
        rw [hst.out] at hnx hok2
        rw [hE] at HE
        clear hst hgp hp hE HC HG hO ha b0 b1 b2 b3
        generalize cmI (N p) (V p) s.n s.d = C at *
        generalize okk (N p) (V p) s.n s.d = O at *
        generalize N p = n at *
        generalize V p = d at *
        go_wp2_with fail
        refine (HE.out _ (by (repeat (first | with_reducible exact Below.refl _ _ | with_reducible assumption | with_reducible refine balloc ?_ _ | with_reducible refine bdrew ?_ | with_reducible refine below_drewN ?_ _ | with_reducible refine bset ?_ ?_ _ | with_reducible exact Nat.le_refl _ | with_reducible refine bsize ?_ | (dsimp only; refine Nat.le_trans ?_ (Nat.le_add_right _ _)) | with_reducible refine Nat.le_trans ?_ (Nat.le_add_right _ _) | (with_reducible refine bstep ?_ (by assumption)))))).mono ?_
        rintro e w3 ⟨rfl, hb3⟩
        have f3 : Below wr.heap.size wr w3 := bstep (by (repeat (first | with_reducible exact Below.refl _ _ | with_reducible assumption | with_reducible refine balloc ?_ _ | with_reducible refine bdrew ?_ | with_reducible refine below_drewN ?_ _ | with_reducible refine bset ?_ ?_ _ | with_reducible exact Nat.le_refl _ | with_reducible refine bsize ?_ | (dsimp only; refine Nat.le_trans ?_ (Nat.le_add_right _ _)) | with_reducible refine Nat.le_trans ?_ (Nat.le_add_right _ _) | (with_reducible refine bstep ?_ (by assumption))))) hb3
        clear hb3 HE
        replace s1 := keepa f3 hs s1
        replace s2 := keepa f3 hs s2
        replace s3 := keepz f3 hs s3
        replace s4 := keepz f3 hs s4
        replace r1 := keepa f3 hs0 r1
        replace r2 := keepa f3 hs0 r2
        replace r3 := keepz f3 hs0 r3
        replace r4 := keepz f3 hs0 r4
        have z3 : w.heap.size + 1 < w3.heap.size := Nat.lt_of_lt_of_le hs f3.size
        have z4 : w.heap.size < w3.heap.size := by omega
        have hb := bstep hbel f3
        clear f3 hbel
        go_wp2_with fail
        refine (HM.out _).mono ?_
        rintro e w4 ⟨rfl, hb4⟩
        have f4 : Below w3.heap.size w3 w4 := bstep (by (repeat (first | with_reducible exact Below.refl _ _ | with_reducible assumption | with_reducible refine balloc ?_ _ | with_reducible refine bdrew ?_ | with_reducible refine below_drewN ?_ _ | with_reducible refine bset ?_ ?_ _ | with_reducible exact Nat.le_refl _ | with_reducible refine bsize ?_ | (dsimp only; refine Nat.le_trans ?_ (Nat.le_add_right _ _)) | with_reducible refine Nat.le_trans ?_ (Nat.le_add_right _ _) | (with_reducible refine bstep ?_ (by assumption))))) hb4
        obtain ⟨kc4, kf4, kz4, ky4, kx4, kv4, ku4⟩ := bcell hb4
        have t1 : w4.cell? ⟨w3.heap.size, 0, none⟩ = some (.int .i64 n) := by rw [kc4 _ _ (by simp)]; simp [go_sem]
        have t2 : w4.cell? ⟨w3.heap.size, 1, none⟩ = some (.int .i64 d) := by rw [kc4 _ _ (by simp)]; simp [go_sem]
        have t3 := kz4 w3.heap.size (by simp)
        clear kc4 kf4 kz4 ky4 kx4 kv4 ku4 hb4 HM
        replace s1 := keepa f4 z3 s1
        replace s2 := keepa f4 z3 s2
        replace s3 := keepz f4 z3 s3
        replace s4 := keepz f4 z3 s4
        replace r1 := keepa f4 z4 r1
        replace r2 := keepa f4 z4 r2
        replace r3 := keepz f4 z4 r3
        replace r4 := keepz f4 z4 r4
        replace z3 : w.heap.size + 1 < w4.heap.size := Nat.lt_of_lt_of_le z3 f4.size
        replace z4 : w.heap.size < w4.heap.size := by omega
        replace hb := bstep hb f4
        clear f4
        obtain ⟨si, sn, sd, sf⟩ := s
        dsimp only at *
        by_cases hC : 0 < C
        all_goals cases hf : sf
        all_goals subst hf
        all_goals (first | (rw [if_pos (Or.inl rfl)] at hnx hok2) | (rw [if_pos (Or.inr hC)] at hnx hok2) | (rw [if_neg (by rintro (h | h); exact absurd h (by decide); exact hC h)] at hnx hok2))
        all_goals go_wp2
        all_goals (try go_region)
        all_goals (try go_wp2)
        all_goals go_roundw
        all_goals first | (simp [intOf]; omega) | (refine ⟨k + 1, _, by omega, by go_num, rfl, rfl, hok2, hnx, by simp [go_sem, s1, s2, z3, t1, t2, t3], by simp [go_sem, s1, s2, z3, t1, t2, t3], by simp [go_sem, s3, z3, t3], by simp [go_sem, s4, z3, t3], by simp [go_sem, r1, z4], by simp [go_sem, r2, z4], by simp [go_sem, r3, z4], by simp [go_sem, r4, z4], by first | omega | (simp; omega), ?_⟩; (repeat (first | with_reducible exact Below.refl _ _ | with_reducible assumption | with_reducible refine balloc ?_ _ | with_reducible refine bdrew ?_ | with_reducible refine below_drewN ?_ _ | with_reducible refine bset ?_ ?_ _ | with_reducible exact Nat.le_refl _ | with_reducible refine bsize ?_ | (dsimp only; refine Nat.le_trans ?_ (Nat.le_add_right _ _)) | with_reducible refine Nat.le_trans ?_ (Nat.le_add_right _ _) | (with_reducible refine bstep ?_ (by assumption)))))
    · have hk' : k = l.length := by omega
      subst hk'
      have hR := Lib.hid (bs_end hfold.out)
      clear hfold hok HC HG
      obtain ⟨si, sn, sd, sf⟩ := s
      dsimp only at *
      go_wp2
      all_goals (try go_region)
      all_goals (try go_wp2)
      all_goals refine bodyPost_ret (v := .tuple #[.int .i64 si, .agg #[.int .i64 sn, .int .i64 sd], .bool sf]) (by simp only [results, Try.results31]; go_simp) rfl ⟨by rw [← hR.out], ?_⟩
      all_goals (repeat (first | with_reducible exact Below.refl _ _ | with_reducible assumption | with_reducible refine balloc ?_ _ | with_reducible refine bdrew ?_ | with_reducible refine below_drewN ?_ _ | with_reducible refine bset ?_ ?_ _ | with_reducible exact Nat.le_refl _ | with_reducible refine bsize ?_ | (dsimp only; refine Nat.le_trans ?_ (Nat.le_add_right _ _)) | with_reducible refine Nat.le_trans ?_ (Nat.le_add_right _ _) | (with_reducible refine bstep ?_ (by assumption))))
theorem best_nil (N V : (Int × Int) → Int) (G : (Int × Int) → Bool) (q0 q1 q2 : Nat) (w : World) :
    Calls Try.prog 31 #[.slice none 0 0, .func (.func 32) #[] #[.pointer (some ⟨q0, 0, none⟩), .pointer (some ⟨q1, 0, none⟩), .pointer (some ⟨q2, 0, none⟩)]] w fun e w' => e = .returned (.tuple #[.int .i64 (bsR N V G []).i, .agg #[.int .i64 (bsR N V G []).n, .int .i64 (bsR N V G []).d], .bool (bsR N V G []).f]) ∧ Below w.heap.size w w' := by
  show Calls Try.prog 31 #[.slice none 0 0, .func (.func 32) #[] #[.pointer (some ⟨q0, 0, none⟩), .pointer (some ⟨q1, 0, none⟩), .pointer (some ⟨q2, 0, none⟩)]] w fun e w' => e = .returned (.tuple #[.int .i64 0, .agg #[.int .i64 0, .int .i64 0], .bool false]) ∧ Below w.heap.size w w'
  go_enter Try.func31, Try.ntmps31
  go_wp2
  go_loopw [7, 9, 19] (fun ix fd i wr => i = .int .i64 0 ∧ ix = .int .i64 0 ∧ fd = .bool false ∧ wr = ((w.alloc (.cells #[.int .i64 0, .int .i64 0] 28)).alloc (.cells #[.int .i64 0, .int .i64 0] 28))) (fun _ _ _ _ => 0)
  case atStart => exact ⟨rfl, rfl, rfl, by simp [go_sem]⟩
  case round =>
    obtain ⟨rfl, rfl, rfl, rfl⟩ := hrel
    go_wp2
    all_goals (try go_region)
    all_goals (try go_wp2)
    all_goals refine bodyPost_ret (v := .tuple #[.int .i64 0, .agg #[.int .i64 0, .int .i64 0], .bool false]) (by simp only [results, Try.results31]; go_simp) rfl ⟨rfl, ?_⟩
    all_goals (repeat (first | with_reducible exact Below.refl _ _ | with_reducible assumption | with_reducible refine balloc ?_ _ | with_reducible refine bdrew ?_ | with_reducible refine below_drewN ?_ _ | with_reducible refine bset ?_ ?_ _ | with_reducible exact Nat.le_refl _ | with_reducible refine bsize ?_ | (dsimp only; refine Nat.le_trans ?_ (Nat.le_add_right _ _)) | with_reducible refine Nat.le_trans ?_ (Nat.le_add_right _ _) | (with_reducible refine bstep ?_ (by assumption))))
theorem best_row (N V : (Int × Int) → Int) (G : (Int × Int) → Bool) (q0 q1 q2 : Nat) (v : Value) (l : List (Int × Int)) (w : World) (h : RowG 2 fAmt w v l) (hG : ∀ p ∈ l, G p = true → amB (N p) (V p) = true)
    (hcon : ∀ p ∈ l, ∀ W, Below w.heap.size w W → Calls Try.prog 32 #[.agg #[.int .i64 p.1, .int .i64 p.2], .pointer (some ⟨q0, 0, none⟩), .pointer (some ⟨q1, 0, none⟩), .pointer (some ⟨q2, 0, none⟩)] W fun e w' => e = .returned (.tuple #[.agg #[.int .i64 (N p), .int .i64 (V p)], .bool (G p)]) ∧ Below W.heap.size W w') :
    Calls Try.prog 31 #[v, .func (.func 32) #[] #[.pointer (some ⟨q0, 0, none⟩), .pointer (some ⟨q1, 0, none⟩), .pointer (some ⟨q2, 0, none⟩)]] w fun e w' => e = .returned (.tuple #[.int .i64 (bsR N V G l).i, .agg #[.int .i64 (bsR N V G l).n, .int .i64 (bsR N V G l).d], .bool (bsR N V G l).f]) ∧ Below w.heap.size w w' := by
  rcases h with ⟨rfl, rfl⟩ | ⟨a, cap, rfl, hL⟩
  · exact best_nil N V G q0 q1 q2 w
  · exact best_some N V G q0 q1 q2 a cap l w hL hG hcon
/-- What the best stop is. -/
def bpN (L E n d r s : Int) (p : Int × Int) : Int := twoN (osK L E n d p.1 p.2 r s) (osX L E n d p.1 p.2 r s) (osM L E n d p.1 p.2 r s)
def bpD (L E n d r s : Int) (p : Int × Int) : Int := twoD (osK L E n d p.1 p.2 r s) (osX L E n d p.1 p.2 r s) (osM L E n d p.1 p.2 r s)
def bpG (L E n d r s : Int) (p : Int × Int) : Bool := twoB (osK L E n d p.1 p.2 r s) (osX L E n d p.1 p.2 r s) (osM L E n d p.1 p.2 r s)
def bpR (L E n d r s : Int) (l : List (Int × Int)) : BsV := if choB l = true then bsR (bpN L E n d r s) (bpD L E n d r s) (bpG L E n d r s) l else ⟨0, 0, 0, false⟩
theorem bp_am (L E n d r s : Int) (p : Int × Int) (h : bpG L E n d r s p = true) : amB (bpN L E n d r s p) (bpD L E n d r s p) = true := two_am _ _ _ h
theorem bp_no (L E n d r s : Int) (l : List (Int × Int)) (h : (askB L E n d && plB r s) = false) : bpR L E n d r s l = ⟨0, 0, 0, false⟩ := by
  unfold bpR
  split
  · refine bs_no (fun p => ?_)
    have hk : osK L E n d p.1 p.2 r s = false := by
      unfold osK
      cases h1 : askB L E n d
      · rfl
      · rw [h1] at h
        have h2 : plB r s = false := by simpa using h
        rw [h2]; simp
    unfold bpG
    rw [hk]
    exact (two_no _ _).2.2
  · rfl
set_option maxHeartbeats 1600000 in
theorem best_clo (L E n d r s : Int) (bn : -9223372036854775808 ≤ n ∧ n ≤ 9223372036854775807) (bd : -9223372036854775808 ≤ d ∧ d ≤ 9223372036854775807) (br : -9223372036854775808 ≤ r ∧ r ≤ 9223372036854775807) (bs : -9223372036854775808 ≤ s ∧ s ≤ 9223372036854775807) (p : Int × Int) (b0 : -9223372036854775808 ≤ p.1 ∧ p.1 ≤ 9223372036854775807) (b1 : -9223372036854775808 ≤ p.2 ∧ p.2 ≤ 9223372036854775807) (q0 q1 q2 : Nat) (w : World)
    (c1 : w.cell? ⟨q0, 0, none⟩ = some (.int .i64 L)) (c2 : w.cell? ⟨q0, 1, none⟩ = some (.int .i64 E)) (c3 : w.cell? ⟨q1, 0, none⟩ = some (.int .i64 n)) (c4 : w.cell? ⟨q1, 1, none⟩ = some (.int .i64 d)) (c5 : w.cell? ⟨q2, 0, none⟩ = some (.int .i64 r)) (c6 : w.cell? ⟨q2, 1, none⟩ = some (.int .i64 s)) :
    Calls Try.prog 32 #[.agg #[.int .i64 p.1, .int .i64 p.2], .pointer (some ⟨q0, 0, none⟩), .pointer (some ⟨q1, 0, none⟩), .pointer (some ⟨q2, 0, none⟩)] w fun e w' => e = .returned (.tuple #[.agg #[.int .i64 (bpN L E n d r s p), .int .i64 (bpD L E n d r s p)], .bool (bpG L E n d r s p)]) ∧ Below w.heap.size w w' := by
  have HO : Hid (∀ W, Calls Try.prog 33 #[.agg #[.int .i64 L, .int .i64 E], .agg #[.int .i64 n, .int .i64 d], .agg #[.int .i64 p.1, .int .i64 p.2], .agg #[.int .i64 r, .int .i64 s]] W fun e w' => e = .returned (.tuple #[.agg #[.int .i64 (bpN L E n d r s p), .int .i64 (bpD L E n d r s p)], .bool (bpG L E n d r s p)]) ∧ Below W.heap.size W w') := Lib.hid (fun W => oneStop_impl L E n d p.1 p.2 r s bn bd b0 b1 br bs W)
  have z0 : q0 < w.heap.size := cell_lt c1
  have z1 : q1 < w.heap.size := cell_lt c3
  have z2 : q2 < w.heap.size := cell_lt c5
  generalize bpN L E n d r s p = N at *
  generalize bpD L E n d r s p = V at *
  generalize bpG L E n d r s p = G at *
  go_enter Try.func32, Try.ntmps32
  (go_wp2_with fail; refine (HO.out _).mono ?_; rintro e w1 ⟨rfl, hb1⟩; have ha1 := hb1; obtain ⟨kc1, kf1, kz1, ky1, kx1, kv1, ku1⟩ := bcell hb1)
  have r1 : w1.cell? ⟨w.heap.size + 1, 0, none⟩ = some (.int .i64 0) := (by rw [kc1 (w.heap.size + 1) _ (by first | (simp; done) | (simp; omega))]; first | (simp; done) | (simp [go_sem]; done)); have r2 : w1.cell? ⟨w.heap.size + 1, 1, none⟩ = some (.int .i64 0) := (by rw [kc1 (w.heap.size + 1) _ (by first | (simp; done) | (simp; omega))]; first | (simp; done) | (simp [go_sem]; done)); have r3 : w1.frozen? ⟨w.heap.size + 1, 0, none⟩ = false := (by rw [kf1 (w.heap.size + 1) _ (by first | (simp; done) | (simp; omega))]; first | (simp; done) | (simp [go_sem]; done)); have r4 : w1.frozen? ⟨w.heap.size + 1, 1, none⟩ = false := (by rw [kf1 (w.heap.size + 1) _ (by first | (simp; done) | (simp; omega))]; first | (simp; done) | (simp [go_sem]; done)); have rz : w.heap.size + 1 < w1.heap.size := kz1 (w.heap.size + 1) (by first | (simp; done) | (simp; omega))
  go_wp2
  refine bodyPost_ret (v := .tuple #[.agg #[.int .i64 N, .int .i64 V], .bool G]) (by simp only [results, Try.results32]; go_simp) rfl ⟨rfl, ?_⟩
  (repeat (first | with_reducible exact Below.refl _ _ | with_reducible assumption | with_reducible refine balloc ?_ _ | with_reducible refine bdrew ?_ | with_reducible refine below_drewN ?_ _ | with_reducible refine bset ?_ ?_ _ | with_reducible exact Nat.le_refl _ | with_reducible refine bsize ?_ | (dsimp only; refine Nat.le_trans ?_ (Nat.le_add_right _ _)) | with_reducible refine Nat.le_trans ?_ (Nat.le_add_right _ _) | (with_reducible refine bstep ?_ (by assumption))))
set_option maxHeartbeats 1600000 in
theorem bestStop_impl (L E n d r s : Int) (bn : -9223372036854775808 ≤ n ∧ n ≤ 9223372036854775807) (bd : -9223372036854775808 ≤ d ∧ d ≤ 9223372036854775807) (br : -9223372036854775808 ≤ r ∧ r ≤ 9223372036854775807) (bs : -9223372036854775808 ≤ s ∧ s ≤ 9223372036854775807) (v : Value) (l : List (Int × Int)) (w : World) (h : RowG 2 fAmt w v l) :
    Calls Try.prog 11 #[.agg #[.int .i64 L, .int .i64 E], .agg #[.int .i64 n, .int .i64 d], v, .agg #[.int .i64 r, .int .i64 s]] w fun e w' => e = .returned (.tuple #[.int .i64 (bpR L E n d r s l).i, .agg #[.int .i64 (bpR L E n d r s l).n, .int .i64 (bpR L E n d r s l).d], .bool (bpR L E n d r s l).f]) ∧ Below w.heap.size w w' := by
  have HR : Hid (∀ W, Below w.heap.size w W → RowG 2 fAmt W v l) := Lib.hid (fun W hb => by
    rcases h with ⟨rfl, rfl⟩ | ⟨a, cap, rfl, hL⟩
    · exact Or.inl ⟨rfl, rfl⟩
    · exact Or.inr ⟨a, cap, rfl, liesG_below hL hb⟩)
  have hbd : Hid (∀ p ∈ l, ∀ y ∈ fAmt p, -9223372036854775808 ≤ y ∧ y ≤ 9223372036854775807) := Lib.hid (by
    rcases h with ⟨rfl, rfl⟩ | ⟨a, cap, rfl, hL⟩
    · simp
    · exact hL.hbd)
  have HC := Lib.hid (fun W hb => cho_is v l W (HR.out W hb))
  have HB := Lib.hid (fun W hb q0 q1 q2 hcon => best_row (bpN L E n d r s) (bpD L E n d r s) (bpG L E n d r s) q0 q1 q2 v l W (HR.out W hb) (fun p _ hg => bp_am L E n d r s p hg) hcon)
  clear h
  unfold bpR
  cases hc : choB l
  · rw [hc] at HC
    rw [if_neg (by decide)]
    clear HB hc
    go_enter Try.func11, Try.ntmps11
    (go_wp2_with fail; refine (HC.out _ (by (repeat (first | with_reducible exact Below.refl _ _ | with_reducible assumption | with_reducible refine balloc ?_ _ | with_reducible refine bdrew ?_ | with_reducible refine below_drewN ?_ _ | with_reducible refine bset ?_ ?_ _ | with_reducible exact Nat.le_refl _ | with_reducible refine bsize ?_ | (dsimp only; refine Nat.le_trans ?_ (Nat.le_add_right _ _)) | with_reducible refine Nat.le_trans ?_ (Nat.le_add_right _ _) | (with_reducible refine bstep ?_ (by assumption)))))).mono ?_; rintro e w1 ⟨rfl, hb1⟩; have ha1 := hb1; obtain ⟨kc1, kf1, kz1, ky1, kx1, kv1, ku1⟩ := bcell hb1)
    have r1 : w1.cell? ⟨w.heap.size + 1 + 1 + 1, 0, none⟩ = some (.int .i64 0) := (by rw [kc1 (w.heap.size + 1 + 1 + 1) _ (by first | (simp; done) | (simp; omega))]; first | (simp; done) | (simp [go_sem]; done)); have r2 : w1.cell? ⟨w.heap.size + 1 + 1 + 1, 1, none⟩ = some (.int .i64 0) := (by rw [kc1 (w.heap.size + 1 + 1 + 1) _ (by first | (simp; done) | (simp; omega))]; first | (simp; done) | (simp [go_sem]; done)); have r3 : w1.frozen? ⟨w.heap.size + 1 + 1 + 1, 0, none⟩ = false := (by rw [kf1 (w.heap.size + 1 + 1 + 1) _ (by first | (simp; done) | (simp; omega))]; first | (simp; done) | (simp [go_sem]; done)); have r4 : w1.frozen? ⟨w.heap.size + 1 + 1 + 1, 1, none⟩ = false := (by rw [kf1 (w.heap.size + 1 + 1 + 1) _ (by first | (simp; done) | (simp; omega))]; first | (simp; done) | (simp [go_sem]; done)); have rz : w.heap.size + 1 + 1 + 1 < w1.heap.size := kz1 (w.heap.size + 1 + 1 + 1) (by first | (simp; done) | (simp; omega))
    go_wp2
    refine bodyPost_ret (v := .tuple #[.int .i64 0, .agg #[.int .i64 0, .int .i64 0], .bool false]) (by simp only [results, Try.results11]; go_simp) rfl ⟨rfl, ?_⟩
    (repeat (first | with_reducible exact Below.refl _ _ | with_reducible assumption | with_reducible refine balloc ?_ _ | with_reducible refine bdrew ?_ | with_reducible refine below_drewN ?_ _ | with_reducible refine bset ?_ ?_ _ | with_reducible exact Nat.le_refl _ | with_reducible refine bsize ?_ | (dsimp only; refine Nat.le_trans ?_ (Nat.le_add_right _ _)) | with_reducible refine Nat.le_trans ?_ (Nat.le_add_right _ _) | (with_reducible refine bstep ?_ (by assumption))))
  · rw [hc] at HC
    rw [if_pos rfl]
    clear hc
    generalize bsR (bpN L E n d r s) (bpD L E n d r s) (bpG L E n d r s) l = R at *
    obtain ⟨ri, rn, rd, rf⟩ := R
    dsimp only at *
    go_enter Try.func11, Try.ntmps11
    (go_wp2_with fail; refine (HC.out _ (by (repeat (first | with_reducible exact Below.refl _ _ | with_reducible assumption | with_reducible refine balloc ?_ _ | with_reducible refine bdrew ?_ | with_reducible refine below_drewN ?_ _ | with_reducible refine bset ?_ ?_ _ | with_reducible exact Nat.le_refl _ | with_reducible refine bsize ?_ | (dsimp only; refine Nat.le_trans ?_ (Nat.le_add_right _ _)) | with_reducible refine Nat.le_trans ?_ (Nat.le_add_right _ _) | (with_reducible refine bstep ?_ (by assumption)))))).mono ?_; rintro e w1 ⟨rfl, hb1⟩; have ha1 := hb1; obtain ⟨kc1, kf1, kz1, ky1, kx1, kv1, ku1⟩ := bcell hb1)
    have r1 : w1.cell? ⟨w.heap.size + 1 + 1 + 1, 0, none⟩ = some (.int .i64 0) := (by rw [kc1 (w.heap.size + 1 + 1 + 1) _ (by first | (simp; done) | (simp; omega))]; first | (simp; done) | (simp [go_sem]; done)); have r2 : w1.cell? ⟨w.heap.size + 1 + 1 + 1, 1, none⟩ = some (.int .i64 0) := (by rw [kc1 (w.heap.size + 1 + 1 + 1) _ (by first | (simp; done) | (simp; omega))]; first | (simp; done) | (simp [go_sem]; done)); have r3 : w1.frozen? ⟨w.heap.size + 1 + 1 + 1, 0, none⟩ = false := (by rw [kf1 (w.heap.size + 1 + 1 + 1) _ (by first | (simp; done) | (simp; omega))]; first | (simp; done) | (simp [go_sem]; done)); have r4 : w1.frozen? ⟨w.heap.size + 1 + 1 + 1, 1, none⟩ = false := (by rw [kf1 (w.heap.size + 1 + 1 + 1) _ (by first | (simp; done) | (simp; omega))]; first | (simp; done) | (simp [go_sem]; done)); have rz : w.heap.size + 1 + 1 + 1 < w1.heap.size := kz1 (w.heap.size + 1 + 1 + 1) (by first | (simp; done) | (simp; omega))
    have c1 : w1.cell? ⟨w.heap.size, 0, none⟩ = some (.int .i64 L) := by rw [kc1 _ _ (by simp)]; simp [go_sem]
    have c2 : w1.cell? ⟨w.heap.size, 1, none⟩ = some (.int .i64 E) := by rw [kc1 _ _ (by simp)]; simp [go_sem]
    have c3 : w1.cell? ⟨w.heap.size + 1, 0, none⟩ = some (.int .i64 n) := by rw [kc1 _ _ (by simp)]; simp [go_sem]
    have c4 : w1.cell? ⟨w.heap.size + 1, 1, none⟩ = some (.int .i64 d) := by rw [kc1 _ _ (by simp)]; simp [go_sem]
    have c5 : w1.cell? ⟨w.heap.size + 1 + 1, 0, none⟩ = some (.int .i64 r) := by rw [kc1 _ _ (by simp)]; simp [go_sem]
    have c6 : w1.cell? ⟨w.heap.size + 1 + 1, 1, none⟩ = some (.int .i64 s) := by rw [kc1 _ _ (by simp)]; simp [go_sem]
    have z2 := kz1 (w.heap.size + 1 + 1) (by simp)
    have hcl := Lib.hid (fun (p : Int × Int) (hp : p ∈ l) (W : World) (hb : Below w1.heap.size w1 W) => best_clo L E n d r s bn bd br bs p (hbd.out p hp p.1 (by simp [fAmt])) (hbd.out p hp p.2 (by simp [fAmt])) w.heap.size (w.heap.size + 1) (w.heap.size + 1 + 1) W (keepa hb (by omega) c1) (keepa hb (by omega) c2) (keepa hb (by omega) c3) (keepa hb (by omega) c4) (keepa hb z2 c5) (keepa hb z2 c6))
    have hA1 : Below w.heap.size w w1 := by (repeat (first | with_reducible exact Below.refl _ _ | with_reducible assumption | with_reducible refine balloc ?_ _ | with_reducible refine bdrew ?_ | with_reducible refine below_drewN ?_ _ | with_reducible refine bset ?_ ?_ _ | with_reducible exact Nat.le_refl _ | with_reducible refine bsize ?_ | (dsimp only; refine Nat.le_trans ?_ (Nat.le_add_right _ _)) | with_reducible refine Nat.le_trans ?_ (Nat.le_add_right _ _) | (with_reducible refine bstep ?_ (by assumption))))
    have HB2 := Lib.hid (HB.out w1 hA1 w.heap.size (w.heap.size + 1) (w.heap.size + 1 + 1) hcl.out)
    clear hcl HB HC HR hbd c1 c2 c3 c4 c5 c6 z2
    (go_wp2_with fail; refine (HB2.out).mono ?_; rintro e w2 ⟨rfl, hb2⟩; have ha2 := bjoin ha1 hb2 (by (repeat (first | with_reducible exact Below.refl _ _ | with_reducible assumption | with_reducible refine balloc ?_ _ | with_reducible refine bdrew ?_ | with_reducible refine below_drewN ?_ _ | with_reducible refine bset ?_ ?_ _ | with_reducible exact Nat.le_refl _ | with_reducible refine bsize ?_ | (dsimp only; refine Nat.le_trans ?_ (Nat.le_add_right _ _)) | with_reducible refine Nat.le_trans ?_ (Nat.le_add_right _ _) | (with_reducible refine bstep ?_ (by assumption))))); obtain ⟨kc2, kf2, kz2, ky2, kx2, kv2, ku2⟩ := bcell hb2; obtain ⟨jc2, jf2, jz2, jy2, jx2, jv2, ju2⟩ := bcell ha2)
    (have rb : Below w1.heap.size w1 w2 := bstep (by (repeat (first | with_reducible exact Below.refl _ _ | with_reducible assumption | with_reducible refine balloc ?_ _ | with_reducible refine bdrew ?_ | with_reducible refine below_drewN ?_ _ | with_reducible refine bset ?_ ?_ _ | with_reducible exact Nat.le_refl _ | with_reducible refine bsize ?_ | (dsimp only; refine Nat.le_trans ?_ (Nat.le_add_right _ _)) | with_reducible refine Nat.le_trans ?_ (Nat.le_add_right _ _) | (with_reducible refine bstep ?_ (by assumption))))) hb2); replace r1 := keepa rb rz r1; replace r2 := keepa rb rz r2; replace r3 := keepz rb rz r3; replace r4 := keepz rb rz r4; replace rz := Nat.lt_of_lt_of_le rz rb.size; clear rb
    go_wp2
    refine bodyPost_ret (v := .tuple #[.int .i64 ri, .agg #[.int .i64 rn, .int .i64 rd], .bool rf]) (by simp only [results, Try.results11]; go_simp) rfl ⟨rfl, ?_⟩
    (repeat (first | with_reducible exact Below.refl _ _ | with_reducible assumption | with_reducible refine balloc ?_ _ | with_reducible refine bdrew ?_ | with_reducible refine below_drewN ?_ _ | with_reducible refine bset ?_ ?_ _ | with_reducible exact Nat.le_refl _ | with_reducible refine bsize ?_ | (dsimp only; refine Nat.le_trans ?_ (Nat.le_add_right _ _)) | with_reducible refine Nat.le_trans ?_ (Nat.le_add_right _ _) | (with_reducible refine bstep ?_ (by assumption))))
end Go.Proofs.Ytgmgifgbalcngaa
