/- Camels: what is left at camps, on both sides. -/
import Derived.Test.YtgmgifgbalcngaaInc
import Derived.Test.YtgmgifgbalcngaaCamE
import Derived.Test.YtgmgifgbalcngaaCamX
namespace Go.Proofs.Ytgmgifgbalcngaa
open Go.ChangeShapes Go.WideShapes Go.ChangeAt Go.RowKit Go.Joins
set_option maxRecDepth 100000
set_option linter.unusedVariables false
set_option linter.unusedSimpArgs false

def clF (L E n d : Int) (p : Int × Int) : Int × Int := (eaN L E n d p.1 p.2, eaD L E n d p.1 p.2)
def clG (L E n d : Int) (p : Int × Int) : Bool := eaB L E n d p.1 p.2
def clB (L E n d : Int) (l : List (Int × Int)) : Bool := ((askB L E n d && choB l) && incB l) && l.all (clG L E n d)
def clL (L E n d : Int) (l : List (Int × Int)) : List (Int × Int) := if clB L E n d l = true then l.map (clF L E n d) else []
theorem clL_len (L E n d : Int) (l : List (Int × Int)) : (clL L E n d l).length ≤ 1000 := by
  unfold clL
  split
  · next h =>
    unfold clB choB at h
    simp at h
    simp; omega
  · simp
theorem cl_take (L E n d : Int) (l : List (Int × Int)) (k : Nat) (p : Int × Int) (hp : l[k]? = some p) : (l.take (k + 1)).map (clF L E n d) = (l.take k).map (clF L E n d) ++ [(eaN L E n d p.1 p.2, eaD L E n d p.1 p.2)] := by
  rw [List.take_add_one, hp]; simp [clF]
theorem cl_no {L E n d : Int} {l : List (Int × Int)} {k : Nat} {p : Int × Int} (hp : l[k]? = some p) (h : eaB L E n d p.1 p.2 = false) : clB L E n d l = false := by
  have : l.all (clG L E n d) = false := by
    rw [Bool.eq_false_iff]
    intro hb
    have := (List.all_eq_true.1 hb) p (List.mem_of_getElem? hp)
    unfold clG at this
    rw [h] at this
    cases this
  unfold clB; rw [this]; simp
theorem cl_next {L E n d : Int} {l : List (Int × Int)} {k : Nat} {p : Int × Int} (hp : l[k]? = some p) (h : eaB L E n d p.1 p.2 = true) (hall : ∀ j p, j < k → l[j]? = some p → clG L E n d p = true) : ∀ j p, j < k + 1 → l[j]? = some p → clG L E n d p = true := by
  intro j q hj hq
  by_cases e : j = k
  · subst e
    rw [hp] at hq
    injection hq with hq
    subst hq
    exact h
  · exact hall j q (by omega) hq
theorem cl_all {L E n d : Int} {l : List (Int × Int)} (hall : ∀ j p, j < l.length → l[j]? = some p → clG L E n d p = true) : l.all (clG L E n d) = true := by
  refine List.all_eq_true.2 fun p hp => ?_
  obtain ⟨j, hj, hjp⟩ := List.mem_iff_getElem.1 hp
  exact hall j p hj (by rw [List.getElem?_eq_getElem hj, hjp])
set_option maxHeartbeats 3200000 in
theorem camps_impl_some (L E n d : Int) (bn : -9223372036854775808 ≤ n ∧ n ≤ 9223372036854775807) (bd : -9223372036854775808 ≤ d ∧ d ≤ 9223372036854775807) (a : Addr) (cap : Nat) (l : List (Int × Int)) (w : World) (hL : LiesG 2 fAmt w a cap l) :
    Calls Try.prog 20 #[.agg #[.int .i64 L, .int .i64 E], .agg #[.int .i64 n, .int .i64 d], .slice (some a) l.length cap] w (AnsG 28 2 fAmt (clL L E n d l) (clB L E n d l) w) := by
  have hlc := hL.hlc
  have hcap := hL.hcap
  have HA := Lib.hid (fun W => ask_impl L E n d bn bd W)
  have HC : Hid (∀ W, Below w.heap.size w W → Calls Try.prog 29 #[.slice (some a) l.length cap, .int .i64 20, .func (.func 30) #[] #[]] W fun e w' => e = .returned (.bool (choB l)) ∧ Below W.heap.size W w') := Lib.hid (fun W h => cho_is _ l W (Or.inr ⟨a, cap, rfl, liesG_below hL h⟩))
  have HI : Hid (∀ W, Below w.heap.size w W → Calls Try.prog 45 #[.slice (some a) l.length cap] W fun e w' => e = .returned (.bool (incB l)) ∧ Below W.heap.size W w') := Lib.hid (fun W h => incr_row _ l W (Or.inr ⟨a, cap, rfl, liesG_below hL h⟩))
  cases h1 : askB L E n d
  · have eB : clB L E n d l = false := by unfold clB; rw [h1]; rfl
    have eL : clL L E n d l = [] := by unfold clL; rw [eB]; rfl
    rw [eB, eL]
    clear eB eL
    rw [h1] at HA
    clear h1
    go_enter Try.func20, Try.ntmps20
    (go_wp2_with fail; refine (HA.out _).mono ?_; rintro e w1 ⟨rfl, hb1⟩; have ha1 := hb1; obtain ⟨kc1, kf1, kz1, ky1, kx1, kv1, ku1⟩ := bcell hb1)
    go_wp2
    refine bodyPost_ret (v := .tuple #[.slice none 0 0, .bool false]) (by simp only [results, Try.results20]; go_simp) rfl ?_
    exact ans_owns rfl ⟨rfl, Or.inl ⟨rfl, rfl⟩⟩ (by (repeat (first | with_reducible exact Below.refl _ _ | with_reducible assumption | with_reducible refine balloc ?_ _ | with_reducible refine bdrew ?_ | with_reducible refine below_drewN ?_ _ | with_reducible refine bset ?_ ?_ _ | with_reducible exact Nat.le_refl _ | with_reducible refine bsize ?_ | (dsimp only; refine Nat.le_trans ?_ (Nat.le_add_right _ _)) | with_reducible refine Nat.le_trans ?_ (Nat.le_add_right _ _) | (with_reducible refine bstep ?_ (by assumption)))))
  cases h2 : choB l
  · have eB : clB L E n d l = false := by unfold clB; rw [h2, Bool.and_false]; rfl
    have eL : clL L E n d l = [] := by unfold clL; rw [eB]; rfl
    rw [eB, eL]
    clear eB eL
    rw [h1] at HA
    rw [h2] at HC
    clear h1 h2
    go_enter Try.func20, Try.ntmps20
    (go_wp2_with fail; refine (HA.out _).mono ?_; rintro e w1 ⟨rfl, hb1⟩; have ha1 := hb1; obtain ⟨kc1, kf1, kz1, ky1, kx1, kv1, ku1⟩ := bcell hb1)
    (go_wp2_with fail; refine (HC.out _ (by (repeat (first | with_reducible exact Below.refl _ _ | with_reducible assumption | with_reducible refine balloc ?_ _ | with_reducible refine bdrew ?_ | with_reducible refine below_drewN ?_ _ | with_reducible refine bset ?_ ?_ _ | with_reducible exact Nat.le_refl _ | with_reducible refine bsize ?_ | (dsimp only; refine Nat.le_trans ?_ (Nat.le_add_right _ _)) | with_reducible refine Nat.le_trans ?_ (Nat.le_add_right _ _) | (with_reducible refine bstep ?_ (by assumption)))))).mono ?_; rintro e w2 ⟨rfl, hb2⟩; (have ha2 : Below w.heap.size w w2 := by (repeat (first | with_reducible exact Below.refl _ _ | with_reducible assumption | with_reducible refine balloc ?_ _ | with_reducible refine bdrew ?_ | with_reducible refine below_drewN ?_ _ | with_reducible refine bset ?_ ?_ _ | with_reducible exact Nat.le_refl _ | with_reducible refine bsize ?_ | (dsimp only; refine Nat.le_trans ?_ (Nat.le_add_right _ _)) | with_reducible refine Nat.le_trans ?_ (Nat.le_add_right _ _) | (with_reducible refine bstep ?_ (by assumption))))); obtain ⟨kc2, kf2, kz2, ky2, kx2, kv2, ku2⟩ := bcell hb2)
    go_wp2
    refine bodyPost_ret (v := .tuple #[.slice none 0 0, .bool false]) (by simp only [results, Try.results20]; go_simp) rfl ?_
    exact ans_owns rfl ⟨rfl, Or.inl ⟨rfl, rfl⟩⟩ (by (repeat (first | with_reducible exact Below.refl _ _ | with_reducible assumption | with_reducible refine balloc ?_ _ | with_reducible refine bdrew ?_ | with_reducible refine below_drewN ?_ _ | with_reducible refine bset ?_ ?_ _ | with_reducible exact Nat.le_refl _ | with_reducible refine bsize ?_ | (dsimp only; refine Nat.le_trans ?_ (Nat.le_add_right _ _)) | with_reducible refine Nat.le_trans ?_ (Nat.le_add_right _ _) | (with_reducible refine bstep ?_ (by assumption)))))
  cases h3 : incB l
  · have eB : clB L E n d l = false := by unfold clB; rw [h3, Bool.and_false]; rfl
    have eL : clL L E n d l = [] := by unfold clL; rw [eB]; rfl
    rw [eB, eL]
    clear eB eL
    rw [h1] at HA
    rw [h2] at HC
    rw [h3] at HI
    clear h1 h2 h3
    go_enter Try.func20, Try.ntmps20
    (go_wp2_with fail; refine (HA.out _).mono ?_; rintro e w1 ⟨rfl, hb1⟩; have ha1 := hb1; obtain ⟨kc1, kf1, kz1, ky1, kx1, kv1, ku1⟩ := bcell hb1)
    (go_wp2_with fail; refine (HC.out _ (by (repeat (first | with_reducible exact Below.refl _ _ | with_reducible assumption | with_reducible refine balloc ?_ _ | with_reducible refine bdrew ?_ | with_reducible refine below_drewN ?_ _ | with_reducible refine bset ?_ ?_ _ | with_reducible exact Nat.le_refl _ | with_reducible refine bsize ?_ | (dsimp only; refine Nat.le_trans ?_ (Nat.le_add_right _ _)) | with_reducible refine Nat.le_trans ?_ (Nat.le_add_right _ _) | (with_reducible refine bstep ?_ (by assumption)))))).mono ?_; rintro e w2 ⟨rfl, hb2⟩; (have ha2 : Below w.heap.size w w2 := by (repeat (first | with_reducible exact Below.refl _ _ | with_reducible assumption | with_reducible refine balloc ?_ _ | with_reducible refine bdrew ?_ | with_reducible refine below_drewN ?_ _ | with_reducible refine bset ?_ ?_ _ | with_reducible exact Nat.le_refl _ | with_reducible refine bsize ?_ | (dsimp only; refine Nat.le_trans ?_ (Nat.le_add_right _ _)) | with_reducible refine Nat.le_trans ?_ (Nat.le_add_right _ _) | (with_reducible refine bstep ?_ (by assumption))))); obtain ⟨kc2, kf2, kz2, ky2, kx2, kv2, ku2⟩ := bcell hb2)
    (go_wp2_with fail; refine (HI.out _ (by (repeat (first | with_reducible exact Below.refl _ _ | with_reducible assumption | with_reducible refine balloc ?_ _ | with_reducible refine bdrew ?_ | with_reducible refine below_drewN ?_ _ | with_reducible refine bset ?_ ?_ _ | with_reducible exact Nat.le_refl _ | with_reducible refine bsize ?_ | (dsimp only; refine Nat.le_trans ?_ (Nat.le_add_right _ _)) | with_reducible refine Nat.le_trans ?_ (Nat.le_add_right _ _) | (with_reducible refine bstep ?_ (by assumption)))))).mono ?_; rintro e w3 ⟨rfl, hb3⟩; (have ha3 : Below w.heap.size w w3 := by (repeat (first | with_reducible exact Below.refl _ _ | with_reducible assumption | with_reducible refine balloc ?_ _ | with_reducible refine bdrew ?_ | with_reducible refine below_drewN ?_ _ | with_reducible refine bset ?_ ?_ _ | with_reducible exact Nat.le_refl _ | with_reducible refine bsize ?_ | (dsimp only; refine Nat.le_trans ?_ (Nat.le_add_right _ _)) | with_reducible refine Nat.le_trans ?_ (Nat.le_add_right _ _) | (with_reducible refine bstep ?_ (by assumption))))); obtain ⟨kc3, kf3, kz3, ky3, kx3, kv3, ku3⟩ := bcell hb3)
    go_wp2
    refine bodyPost_ret (v := .tuple #[.slice none 0 0, .bool false]) (by simp only [results, Try.results20]; go_simp) rfl ?_
    exact ans_owns rfl ⟨rfl, Or.inl ⟨rfl, rfl⟩⟩ (by (repeat (first | with_reducible exact Below.refl _ _ | with_reducible assumption | with_reducible refine balloc ?_ _ | with_reducible refine bdrew ?_ | with_reducible refine below_drewN ?_ _ | with_reducible refine bset ?_ ?_ _ | with_reducible exact Nat.le_refl _ | with_reducible refine bsize ?_ | (dsimp only; refine Nat.le_trans ?_ (Nat.le_add_right _ _)) | with_reducible refine Nat.le_trans ?_ (Nat.le_add_right _ _) | (with_reducible refine bstep ?_ (by assumption)))))
  have h20 : l.length ≤ 20 := by unfold choB at h2; simp at h2; exact h2.1
  have HB : Hid (clB L E n d l = l.all (clG L E n d)) := Lib.hid (by unfold clB; rw [h1, h2, h3]; rfl)
  rw [h1] at HA
  rw [h2] at HC
  rw [h3] at HI
  clear h1 h2 h3
  obtain ⟨i0, hi, hz0, hz1, hz2⟩ := info_parts infoAmt
  go_enter Try.func20, Try.ntmps20
  (go_wp2_with fail; refine (HA.out _).mono ?_; rintro e w1 ⟨rfl, hb1⟩; have ha1 := hb1; obtain ⟨kc1, kf1, kz1, ky1, kx1, kv1, ku1⟩ := bcell hb1)
  have c1 : w1.cell? ⟨w.heap.size, 0, none⟩ = some (.int .i64 L) := by rw [kc1 _ _ (by simp)]; simp
  have c2 : w1.cell? ⟨w.heap.size, 1, none⟩ = some (.int .i64 E) := by rw [kc1 _ _ (by simp)]; simp
  have c3 : w1.cell? ⟨w.heap.size + 1, 0, none⟩ = some (.int .i64 n) := by rw [kc1 _ _ (by simp)]; simp
  have c4 : w1.cell? ⟨w.heap.size + 1, 1, none⟩ = some (.int .i64 d) := by rw [kc1 _ _ (by simp)]; simp
  have a1 : w.heap.size + 1 < w1.heap.size := kz1 _ (by simp)
  (go_wp2_with fail; refine (HC.out _ (by (repeat (first | with_reducible exact Below.refl _ _ | with_reducible assumption | with_reducible refine balloc ?_ _ | with_reducible refine bdrew ?_ | with_reducible refine below_drewN ?_ _ | with_reducible refine bset ?_ ?_ _ | with_reducible exact Nat.le_refl _ | with_reducible refine bsize ?_ | (dsimp only; refine Nat.le_trans ?_ (Nat.le_add_right _ _)) | with_reducible refine Nat.le_trans ?_ (Nat.le_add_right _ _) | (with_reducible refine bstep ?_ (by assumption)))))).mono ?_; rintro e w2 ⟨rfl, hb2⟩; (have ha2 : Below w.heap.size w w2 := by (repeat (first | with_reducible exact Below.refl _ _ | with_reducible assumption | with_reducible refine balloc ?_ _ | with_reducible refine bdrew ?_ | with_reducible refine below_drewN ?_ _ | with_reducible refine bset ?_ ?_ _ | with_reducible exact Nat.le_refl _ | with_reducible refine bsize ?_ | (dsimp only; refine Nat.le_trans ?_ (Nat.le_add_right _ _)) | with_reducible refine Nat.le_trans ?_ (Nat.le_add_right _ _) | (with_reducible refine bstep ?_ (by assumption))))); obtain ⟨kc2, kf2, kz2, ky2, kx2, kv2, ku2⟩ := bcell hb2)
  have f2 : Below w1.heap.size w1 w2 := bstep (by (repeat (first | with_reducible exact Below.refl _ _ | with_reducible assumption | with_reducible refine balloc ?_ _ | with_reducible refine bdrew ?_ | with_reducible refine below_drewN ?_ _ | with_reducible refine bset ?_ ?_ _ | with_reducible exact Nat.le_refl _ | with_reducible refine bsize ?_ | (dsimp only; refine Nat.le_trans ?_ (Nat.le_add_right _ _)) | with_reducible refine Nat.le_trans ?_ (Nat.le_add_right _ _) | (with_reducible refine bstep ?_ (by assumption))))) hb2
  replace c1 := keepa f2 (by omega) c1
  replace c2 := keepa f2 (by omega) c2
  replace c3 := keepa f2 (by omega) c3
  replace c4 := keepa f2 (by omega) c4
  replace a1 : w.heap.size + 1 < w2.heap.size := Nat.lt_of_lt_of_le a1 f2.size
  (go_wp2_with fail; refine (HI.out _ (by (repeat (first | with_reducible exact Below.refl _ _ | with_reducible assumption | with_reducible refine balloc ?_ _ | with_reducible refine bdrew ?_ | with_reducible refine below_drewN ?_ _ | with_reducible refine bset ?_ ?_ _ | with_reducible exact Nat.le_refl _ | with_reducible refine bsize ?_ | (dsimp only; refine Nat.le_trans ?_ (Nat.le_add_right _ _)) | with_reducible refine Nat.le_trans ?_ (Nat.le_add_right _ _) | (with_reducible refine bstep ?_ (by assumption)))))).mono ?_; rintro e w3 ⟨rfl, hb3⟩; (have ha3 : Below w.heap.size w w3 := by (repeat (first | with_reducible exact Below.refl _ _ | with_reducible assumption | with_reducible refine balloc ?_ _ | with_reducible refine bdrew ?_ | with_reducible refine below_drewN ?_ _ | with_reducible refine bset ?_ ?_ _ | with_reducible exact Nat.le_refl _ | with_reducible refine bsize ?_ | (dsimp only; refine Nat.le_trans ?_ (Nat.le_add_right _ _)) | with_reducible refine Nat.le_trans ?_ (Nat.le_add_right _ _) | (with_reducible refine bstep ?_ (by assumption))))); obtain ⟨kc3, kf3, kz3, ky3, kx3, kv3, ku3⟩ := bcell hb3)
  have f3 : Below w2.heap.size w2 w3 := bstep (by (repeat (first | with_reducible exact Below.refl _ _ | with_reducible assumption | with_reducible refine balloc ?_ _ | with_reducible refine bdrew ?_ | with_reducible refine below_drewN ?_ _ | with_reducible refine bset ?_ ?_ _ | with_reducible exact Nat.le_refl _ | with_reducible refine bsize ?_ | (dsimp only; refine Nat.le_trans ?_ (Nat.le_add_right _ _)) | with_reducible refine Nat.le_trans ?_ (Nat.le_add_right _ _) | (with_reducible refine bstep ?_ (by assumption))))) hb3
  replace c1 := keepa f3 (by omega) c1
  replace c2 := keepa f3 (by omega) c2
  replace c3 := keepa f3 (by omega) c3
  replace c4 := keepa f3 (by omega) c4
  replace a1 : w.heap.size + 1 < w3.heap.size := Nat.lt_of_lt_of_le a1 f3.size
  have hbw := ha3
  clear ha1 ha2 ha3 hb1 hb2 hb3 f2 f3 kc1 kf1 kz1 ky1 kx1 kv1 ku1 kc2 kf2 kz2 ky2 kx2 kv2 ku2 kc3 kf3 kz3 ky3 kx3 kv3 ku3
  go_wp2
  go_loopw [8, 29] (fun u i wr => ∃ (k : Nat) (v : Value), v = u ∧ k ≤ l.length ∧ i = .int .i64 k ∧ wr.ownsRow w3.heap.size 28 2 v k (cellsG fAmt ((l.take k).map (clF L E n d))) ∧ Hid (∀ j p, j < k → l[j]? = some p → clG L E n d p = true) ∧ Below w3.heap.size w3 wr) (fun _ i _ => l.length - (intOf i).toNat)
  case atStart => exact ⟨0, _, rfl, Nat.zero_le _, rfl, ⟨rfl, Or.inl ⟨rfl, rfl⟩⟩, Lib.hid (fun j p h _ => absurd h (by omega)), by (repeat (first | with_reducible exact Below.refl _ _ | with_reducible assumption | with_reducible refine balloc ?_ _ | with_reducible refine bdrew ?_ | with_reducible refine below_drewN ?_ _ | with_reducible refine bset ?_ ?_ _ | with_reducible exact Nat.le_refl _ | with_reducible refine bsize ?_ | (dsimp only; refine Nat.le_trans ?_ (Nat.le_add_right _ _)) | with_reducible refine Nat.le_trans ?_ (Nat.le_add_right _ _) | (with_reducible refine bstep ?_ (by assumption))))⟩
  case round =>
    obtain ⟨k, v, rfl, hk, rfl, hown, hall, hbel⟩ := hrel
    by_cases hlt : k < l.length
    · obtain ⟨p, hp⟩ : ∃ p, l[k]? = some p := ⟨_, List.getElem?_eq_getElem hlt⟩
      have hL2 := liesG_below hL (bstep hbw hbel)
      have hc := hL2.hcell k p hp
      have e0 := hc 0 p.1 rfl
      rw [Nat.add_zero] at e0
      have e1 : wr.cell? ⟨(a.add (k * 2)).block, (a.add (k * 2)).off + 1, none⟩ = some (.int .i64 p.2) := by
        have h := hc 1 p.2 rfl
        rw [← Deep.add_add] at h
        exact h
      clear hc
      have hbd := hL.hbd p (List.mem_of_getElem? hp)
      have b0 : -9223372036854775808 ≤ p.1 ∧ p.1 ≤ 9223372036854775807 := hbd p.1 (by simp [fAmt])
      have b1 : -9223372036854775808 ≤ p.2 ∧ p.2 ≤ 9223372036854775807 := hbd p.2 (by simp [fAmt])
      clear hbd
      have HLE : Hid (∀ W, Calls Try.prog 46 #[.agg #[.int .i64 L, .int .i64 E], .agg #[.int .i64 n, .int .i64 d], .agg #[.int .i64 p.1, .int .i64 p.2]] W fun e w' => e = .returned (.tuple #[.agg #[.int .i64 (eaN L E n d p.1 p.2), .int .i64 (eaD L E n d p.1 p.2)], .bool (eaB L E n d p.1 p.2)]) ∧ Below W.heap.size W w') := Lib.hid (fun W => leftAt_pub L E n d p.1 p.2 bn bd b0 b1 W)
      have HSU := Lib.hid (cl_take L E n d l k p hp)
      replace c1 := keepa hbel (by omega) c1
      replace c2 := keepa hbel (by omega) c2
      replace c3 := keepa hbel (by omega) c3
      replace c4 := keepa hbel (by omega) c4
      replace a1 : w.heap.size + 1 < wr.heap.size := Nat.lt_of_lt_of_le a1 hbel.size
      have a0 : w.heap.size < wr.heap.size := by omega
      have i1 : (0 : Int) ≤ (k : Int) := by omega
      have i2 : (k : Int) < (l.length : Int) := by omega
      cases hE : eaB L E n d p.1 p.2
      · have eB : clB L E n d l = false := by unfold clB; exact (by have := cl_no (L := L) (E := E) (n := n) (d := d) hp hE; unfold clB at this; exact this)
        have eL : clL L E n d l = [] := by unfold clL; rw [eB]; rfl
        rw [eB, eL]
        clear eB eL
        rw [hE] at HLE
        generalize eaN L E n d p.1 p.2 = N at *
        generalize eaD L E n d p.1 p.2 = V at *
        clear hE hall hL2 hp HSU HB
        go_wp2_with fail
        refine (HLE.out _).mono ?_
        rintro e w5 ⟨rfl, hb5⟩
        have f5 : Below wr.heap.size wr w5 := bstep (by (repeat (first | with_reducible exact Below.refl _ _ | with_reducible assumption | with_reducible refine balloc ?_ _ | with_reducible refine bdrew ?_ | with_reducible refine below_drewN ?_ _ | with_reducible refine bset ?_ ?_ _ | with_reducible exact Nat.le_refl _ | with_reducible refine bsize ?_ | (dsimp only; refine Nat.le_trans ?_ (Nat.le_add_right _ _)) | with_reducible refine Nat.le_trans ?_ (Nat.le_add_right _ _) | (with_reducible refine bstep ?_ (by assumption))))) hb5
        have hz : Below w.heap.size w w5 := bstep (bstep hbw hbel) f5
        clear hb5 f5 hbel hbw hown
        go_wp2
        refine bodyPost_ret (v := .tuple #[.slice none 0 0, .bool false]) (by simp only [results, Try.results20]; go_simp) rfl ?_
        exact ans_owns rfl ⟨rfl, Or.inl ⟨rfl, rfl⟩⟩ (by (repeat (first | with_reducible exact Below.refl _ _ | with_reducible assumption | with_reducible refine balloc ?_ _ | with_reducible refine bdrew ?_ | with_reducible refine below_drewN ?_ _ | with_reducible refine bset ?_ ?_ _ | with_reducible exact Nat.le_refl _ | with_reducible refine bsize ?_ | (dsimp only; refine Nat.le_trans ?_ (Nat.le_add_right _ _)) | with_reducible refine Nat.le_trans ?_ (Nat.le_add_right _ _) | (with_reducible refine bstep ?_ (by assumption)))))
      · have hnext := Lib.hid (cl_next hp hE hall.out)
        rw [hE] at HLE
        generalize eaN L E n d p.1 p.2 = N at *
        generalize eaD L E n d p.1 p.2 = V at *
        clear hE hall hL2 hp
        go_wp2_with fail
        refine (HLE.out _).mono ?_
        rintro e w5 ⟨rfl, hb5⟩
        have f5 : Below wr.heap.size wr w5 := bstep (by (repeat (first | with_reducible exact Below.refl _ _ | with_reducible assumption | with_reducible refine balloc ?_ _ | with_reducible refine bdrew ?_ | with_reducible refine below_drewN ?_ _ | with_reducible refine bset ?_ ?_ _ | with_reducible exact Nat.le_refl _ | with_reducible refine bsize ?_ | (dsimp only; refine Nat.le_trans ?_ (Nat.le_add_right _ _)) | with_reducible refine Nat.le_trans ?_ (Nat.le_add_right _ _) | (with_reducible refine bstep ?_ (by assumption))))) hb5
        have own3 := ownsRow_below hown f5
        have hb2' : Below w3.heap.size w3 w5 := bstep hbel f5
        have hsz3 := hb2'.size
        clear hown hbel f5 hb5 e0 e1
        go_wp2_with (at_builtin; refine wpList_append_own _ rfl _ _ 34 rfl w3.heap.size 28 i0 (.agg #[.int .i64 0, .int .i64 0]) 2 16 Try.underlying34 hi hz0 hz1 hz2 rfl (by decide) v k (cellsG fAmt ((l.take k).map (clF L E n d))) rfl ?own ⟨_, 0, none⟩ 1 1 [.int .i64 N, .int .i64 V] rfl rfl ?s1 ?s2 ?s3 ?s4 ?s5 ?_)
        case own => (repeat (first | with_reducible assumption | with_reducible refine own_alloc ?_ _ | with_reducible refine own_drew ?_ | with_reducible refine own_set ?_ ?_ _))
        case s1 => first | exact cell_two_new _ _ _ _ | simp [go_sem]
        case s2 => simp [Value.oneCell']
        case s3 => unfold maxLen; omega
        case s4 => omega
        case s5 => first | (simp; done) | (simp; omega)
        intro v' w4 hown' hgrow hnn
        have hown2 : w4.ownsRow w3.heap.size 28 2 v' (k + 1) (cellsG fAmt ((l.take (k + 1)).map (clF L E n d))) := by
          rw [HSU.out, cellsG_snoc]; simpa [fAmt] using hown'
        have bel4 : Below w3.heap.size w3 w4 := by
          refine grown_bel (base := w3.heap.size) (e := 28) (size := 2) (n := k) (xs := cellsG fAmt ((l.take k).map (clF L E n d))) ?_ hgrow (by (repeat (first | with_reducible assumption | with_reducible refine own_alloc ?_ _ | with_reducible refine own_drew ?_ | with_reducible refine own_set ?_ ?_ _))) (Nat.le_refl _)
          (repeat (first | with_reducible exact Below.refl _ _ | with_reducible assumption | with_reducible refine balloc ?_ _ | with_reducible refine bdrew ?_ | with_reducible refine below_drewN ?_ _ | with_reducible refine bset ?_ ?_ _ | with_reducible exact Nat.le_refl _ | with_reducible refine bsize ?_ | (dsimp only; refine Nat.le_trans ?_ (Nat.le_add_right _ _)) | with_reducible refine Nat.le_trans ?_ (Nat.le_add_right _ _) | (with_reducible refine bstep ?_ (by assumption))))
        clear hown' hgrow own3 hb2'
        go_wp2
        go_roundw
        case rel => exact ⟨k + 1, _, rfl, by omega, by go_num, hown2, hnext, bel4⟩
        case measure => simp [intOf]; omega
    · have hk' : k = l.length := by omega
      subst hk'
      have HT : Hid (clB L E n d l = true ∧ clL L E n d l = l.map (clF L E n d)) := Lib.hid (by
        have e := (HB.out).trans (cl_all hall.out)
        exact ⟨e, by unfold clL; rw [e]; rfl⟩)
      clear hall HB
      rw [List.take_length] at hown
      go_wp2
      refine bodyPost_ret (v := .tuple #[v, .bool true]) (by simp only [results, Try.results20]; go_simp) rfl ?_
      rw [HT.out.1, HT.out.2]
      exact ans_owns (by simp) (own_mono hown hbw.size) (bstep hbw hbel)
theorem camps_impl_nil (L E n d : Int) (bn : -9223372036854775808 ≤ n ∧ n ≤ 9223372036854775807) (bd : -9223372036854775808 ≤ d ∧ d ≤ 9223372036854775807) (w : World) :
    Calls Try.prog 20 #[.agg #[.int .i64 L, .int .i64 E], .agg #[.int .i64 n, .int .i64 d], .slice none 0 0] w (AnsG 28 2 fAmt [] (askB L E n d) w) := by
  have HA := Lib.hid (fun W => ask_impl L E n d bn bd W)
  have HC : Hid (∀ W, Below w.heap.size w W → Calls Try.prog 29 #[.slice none 0 0, .int .i64 20, .func (.func 30) #[] #[]] W fun e w' => e = .returned (.bool true) ∧ Below W.heap.size W w') := Lib.hid (fun W h => cho_is _ [] W (Or.inl ⟨rfl, rfl⟩))
  have HI := Lib.hid (fun W => incr_nil W)
  cases h1 : askB L E n d
  · rw [h1] at HA
    clear h1
    go_enter Try.func20, Try.ntmps20
    (go_wp2_with fail; refine (HA.out _).mono ?_; rintro e w1 ⟨rfl, hb1⟩; have ha1 := hb1; obtain ⟨kc1, kf1, kz1, ky1, kx1, kv1, ku1⟩ := bcell hb1)
    go_wp2
    refine bodyPost_ret (v := .tuple #[.slice none 0 0, .bool false]) (by simp only [results, Try.results20]; go_simp) rfl ?_
    exact ans_owns rfl ⟨rfl, Or.inl ⟨rfl, rfl⟩⟩ (by (repeat (first | with_reducible exact Below.refl _ _ | with_reducible assumption | with_reducible refine balloc ?_ _ | with_reducible refine bdrew ?_ | with_reducible refine below_drewN ?_ _ | with_reducible refine bset ?_ ?_ _ | with_reducible exact Nat.le_refl _ | with_reducible refine bsize ?_ | (dsimp only; refine Nat.le_trans ?_ (Nat.le_add_right _ _)) | with_reducible refine Nat.le_trans ?_ (Nat.le_add_right _ _) | (with_reducible refine bstep ?_ (by assumption)))))
  · rw [h1] at HA
    clear h1
    go_enter Try.func20, Try.ntmps20
    (go_wp2_with fail; refine (HA.out _).mono ?_; rintro e w1 ⟨rfl, hb1⟩; have ha1 := hb1; obtain ⟨kc1, kf1, kz1, ky1, kx1, kv1, ku1⟩ := bcell hb1)
    (go_wp2_with fail; refine (HC.out _ (by (repeat (first | with_reducible exact Below.refl _ _ | with_reducible assumption | with_reducible refine balloc ?_ _ | with_reducible refine bdrew ?_ | with_reducible refine below_drewN ?_ _ | with_reducible refine bset ?_ ?_ _ | with_reducible exact Nat.le_refl _ | with_reducible refine bsize ?_ | (dsimp only; refine Nat.le_trans ?_ (Nat.le_add_right _ _)) | with_reducible refine Nat.le_trans ?_ (Nat.le_add_right _ _) | (with_reducible refine bstep ?_ (by assumption)))))).mono ?_; rintro e w2 ⟨rfl, hb2⟩; (have ha2 : Below w.heap.size w w2 := by (repeat (first | with_reducible exact Below.refl _ _ | with_reducible assumption | with_reducible refine balloc ?_ _ | with_reducible refine bdrew ?_ | with_reducible refine below_drewN ?_ _ | with_reducible refine bset ?_ ?_ _ | with_reducible exact Nat.le_refl _ | with_reducible refine bsize ?_ | (dsimp only; refine Nat.le_trans ?_ (Nat.le_add_right _ _)) | with_reducible refine Nat.le_trans ?_ (Nat.le_add_right _ _) | (with_reducible refine bstep ?_ (by assumption))))); obtain ⟨kc2, kf2, kz2, ky2, kx2, kv2, ku2⟩ := bcell hb2)
    (go_wp2_with fail; refine (HI.out _).mono ?_; rintro e w3 ⟨rfl, hb3⟩; (have ha3 : Below w.heap.size w w3 := by (repeat (first | with_reducible exact Below.refl _ _ | with_reducible assumption | with_reducible refine balloc ?_ _ | with_reducible refine bdrew ?_ | with_reducible refine below_drewN ?_ _ | with_reducible refine bset ?_ ?_ _ | with_reducible exact Nat.le_refl _ | with_reducible refine bsize ?_ | (dsimp only; refine Nat.le_trans ?_ (Nat.le_add_right _ _)) | with_reducible refine Nat.le_trans ?_ (Nat.le_add_right _ _) | (with_reducible refine bstep ?_ (by assumption))))); obtain ⟨kc3, kf3, kz3, ky3, kx3, kv3, ku3⟩ := bcell hb3)
    go_wp2
    go_loopw [8, 29] (fun u i wr => u = .slice none 0 0 ∧ i = .int .i64 0 ∧ wr = w3) (fun _ _ _ => 0)
    case atStart => exact ⟨rfl, rfl, rfl⟩
    case round =>
      obtain ⟨rfl, rfl, rfl⟩ := hrel
      go_wp2
      refine bodyPost_ret (v := .tuple #[.slice none 0 0, .bool true]) (by simp only [results, Try.results20]; go_simp) rfl ?_
      exact ans_owns rfl ⟨rfl, Or.inl ⟨rfl, rfl⟩⟩ (by assumption)
theorem camps_impl_row (L E n d : Int) (bn : -9223372036854775808 ≤ n ∧ n ≤ 9223372036854775807) (bd : -9223372036854775808 ≤ d ∧ d ≤ 9223372036854775807) (v : Value) (l : List (Int × Int)) (w : World) (h : RowG 2 fAmt w v l) :
    Calls Try.prog 20 #[.agg #[.int .i64 L, .int .i64 E], .agg #[.int .i64 n, .int .i64 d], v] w (AnsG 28 2 fAmt (clL L E n d l) (clB L E n d l) w) := by
  rcases h with ⟨rfl, rfl⟩ | ⟨a, cap, rfl, hL⟩
  · have e1 : clB L E n d [] = askB L E n d := by simp [clB, choB, incB]
    have e2 : clL L E n d [] = [] := by unfold clL; split <;> rfl
    rw [e1, e2]
    exact camps_impl_nil L E n d bn bd w
  · exact camps_impl_some L E n d bn bd a cap l w hL
end Go.Proofs.Ytgmgifgbalcngaa
