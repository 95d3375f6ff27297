/- The contract of addUp, over a slice of amounts wherever it lies. -/
import Derived.Test.YtgpbkjakmbmccaaReck1
import Derived.Test.YtgpbkjakmbmccaaPubS1
import Derived.Test.YtgpbkjakmbmccaaStep
import Derived.Test.YtgpbkjakmbmccaaRow
import Derived.Test.YtgpbkjakmbmccaaRowG
namespace Go.Proofs.Ytgpbkjakmbmccaa
open Go.RowKit
set_option maxRecDepth 100000
set_option linter.unusedVariables false
set_option linter.unusedSimpArgs false

/-- All of a list together, from what there is already, one after the other; none if one of the sums, or a summand, is no amount. -/
def sumL : List (Int × Int) → Int → Int → Option (Int × Int)
  | [], x, y => some (x, y)
  | a :: l, x, y => if (amB a.1 a.2 && lowB (x * a.2 + a.1 * y) (y * a.2)) = true then sumL l (lowN (x * a.2 + a.1 * y) (y * a.2)) (lowD (x * a.2 + a.1 * y) (y * a.2)) else none
def oB (o : Option (Int × Int)) : Bool := o.isSome
def oN (o : Option (Int × Int)) : Int := match o with | some p => p.1 | none => 0
def oD (o : Option (Int × Int)) : Int := match o with | some p => p.2 | none => 0

/-- The cells of an amount. -/
def fAmt (p : Int × Int) : List Int := [p.1, p.2]
theorem fAmt_len (p : Int × Int) : (fAmt p).length = 2 := rfl
theorem infoAmt : (Try.prog.info? 26).map (fun i => (i.zero, i.size, i.bytes)) = some (some (.agg #[.int .i64 0, .int .i64 0]), 2, 16) := by kernel_rfl

set_option maxHeartbeats 1600000 in
theorem addUp_some (a : Addr) (cap : Nat) (l : List (Int × Int)) (w : World) (hL : LiesG 2 fAmt w a cap l) :
    Calls Try.prog 115 #[.slice (some a) l.length cap] w fun e w' => e = .returned (.tuple #[.agg #[.int .i64 (oN (sumL l 0 1)), .int .i64 (oD (sumL l 0 1))], .bool (oB (sumL l 0 1))]) ∧ Below w.heap.size w w' := by
  have hlc := hL.hlc
  have hcap := hL.hcap
  go_enter Try.func115, Try.ntmps115
  go_wp2_with (go_at_call 52; refine (whole_is_impl _ _).mono ?_; rintro e w1 ⟨rfl, rfl⟩)
  go_loopw [12] (fun i wr => ∃ k : Nat, k ≤ l.length ∧ i = .int .i64 k ∧ ∃ x y : Int, Hid (amB x y = true) ∧ Hid (sumL (l.drop k) x y = sumL l 0 1) ∧ wr.cell? ⟨w.heap.size + 1 + 1, 0, none⟩ = some (.int .i64 x) ∧ wr.cell? ⟨w.heap.size + 1 + 1, 1, none⟩ = some (.int .i64 y) ∧
      wr.frozen? ⟨w.heap.size + 1 + 1, 0, none⟩ = false ∧ wr.frozen? ⟨w.heap.size + 1 + 1, 1, none⟩ = false ∧ wr.cell? ⟨w.heap.size, 0, none⟩ = some (.int .i64 0) ∧ wr.cell? ⟨w.heap.size, 1, none⟩ = some (.int .i64 0) ∧
      wr.frozen? ⟨w.heap.size, 0, none⟩ = false ∧ wr.frozen? ⟨w.heap.size, 1, none⟩ = false ∧ w.heap.size + 1 + 1 < wr.heap.size ∧ Below w.heap.size w wr) (fun i _ => l.length - (intOf i).toNat)
  case atStart =>
    refine ⟨0, Nat.zero_le _, rfl, 0, 1, am_whole 0 (by omega) (by omega), rfl, by simp [go_sem], by simp [go_sem], by simp [go_sem], by simp [go_sem], by simp [go_sem], by simp [go_sem], by simp [go_sem], by simp [go_sem], by simp, ?_⟩
    (repeat (first | with_reducible exact Below.refl _ _ | with_reducible assumption | with_reducible refine balloc ?_ _ | with_reducible refine bdrew ?_ | with_reducible refine below_drewN ?_ _ | with_reducible refine bset ?_ ?_ _ | with_reducible exact Nat.le_refl _ | with_reducible refine bsize ?_ | (dsimp only; refine Nat.le_trans ?_ (Nat.le_add_right _ _)) | with_reducible refine Nat.le_trans ?_ (Nat.le_add_right _ _) | (with_reducible refine bstep ?_ (by assumption))))
  case round =>
    obtain ⟨k, hk, rfl, x, y, hxy, hfold, s1, s2, s3, s4, r1, r2, r3, r4, hs, hbel⟩ := hrel
    by_cases hlt : k < l.length
    · obtain ⟨p, hp⟩ : ∃ p, l[k]? = some p := ⟨_, List.getElem?_eq_getElem hlt⟩
      have hc := (liesG_below hL hbel).hcell k p hp
      have e1 := hc 0 p.1 rfl
      rw [Nat.add_zero] at e1
      have e2 : wr.cell? ⟨(a.add (k * 2)).block, (a.add (k * 2)).off + 1, none⟩ = some (.int .i64 p.2) := by
        have h := hc 1 p.2 rfl
        rw [← Deep.add_add] at h
        exact h
      have hbd := hL.hbd p (List.mem_of_getElem? hp)
      have bp : -9223372036854775808 ≤ p.1 ∧ p.1 ≤ 9223372036854775807 := hbd p.1 (by simp [fAmt])
      have bq : -9223372036854775808 ≤ p.2 ∧ p.2 ≤ 9223372036854775807 := hbd p.2 (by simp [fAmt])
      clear hc hbd
      have hxa := am_of x y hxy.out
      have bx : -9223372036854775808 ≤ x ∧ x ≤ 9223372036854775807 := by have := hxa.a; have := hxa.b; omega
      have byy : -9223372036854775808 ≤ y ∧ y ≤ 9223372036854775807 := by have := hxa.c; have := hxa.d; omega
      have hdrop : l.drop k = p :: l.drop (k + 1) := by
        rw [List.drop_eq_getElem_cons hlt]
        rw [List.getElem?_eq_getElem hlt] at hp
        injection hp with hp
        rw [hp]
      have hokk : okk x y p.1 p.2 = amB p.1 p.2 := by simp [okk, hxy.out]
      have hstep : Hid ((if (amB p.1 p.2 && lowB (x * p.2 + p.1 * y) (y * p.2)) = true then sumL (l.drop (k + 1)) (lowN (x * p.2 + p.1 * y) (y * p.2)) (lowD (x * p.2 + p.1 * y) (y * p.2)) else none) = sumL l 0 1) := by
        have := hfold.out
        rw [hdrop] at this
        exact this
      have hcon := fun W => plus_pub_impl x y p.1 p.2 bx byy bp bq W
      clear hdrop hxa hp hfold
      cases hB : twoB (okk x y p.1 p.2) (x * p.2 + p.1 * y) (y * p.2)
      · have hnone : Hid (sumL l 0 1 = none) := by
          have h := hstep.out
          rw [← hokk] at h
          unfold twoB at hB
          rw [hB] at h
          have h2 : sumL l 0 1 = none := by simpa using h.symm
          exact h2
        have HC := Lib.hid hcon
        clear hcon hokk hstep
        go_wp2_with fail
        refine (HC.out _).mono ?_
        rintro e w3 ⟨rfl, hb3⟩
        rw [hB]
        obtain ⟨kc3, kf3, kz3, ky3, kx3, kv3, ku3⟩ := bcell hb3
        have z1 : w.heap.size < wr.heap.size := by omega
        have q0 : w3.cell? ⟨w.heap.size, 0, none⟩ = some (.int .i64 0) := by rw [kc3 _ _ (by simp; omega)]; simp [go_sem, r1, z1]
        have q1 : w3.cell? ⟨w.heap.size, 1, none⟩ = some (.int .i64 0) := by rw [kc3 _ _ (by simp; omega)]; simp [go_sem, r2, z1]
        have q2 : w3.frozen? ⟨w.heap.size, 0, none⟩ = false := by rw [kf3 _ _ (by simp; omega)]; simp [go_sem, r3, z1]
        have q3 : w3.frozen? ⟨w.heap.size, 1, none⟩ = false := by rw [kf3 _ _ (by simp; omega)]; simp [go_sem, r4, z1]
        have z2 := kz3 w.heap.size (by simp; omega)
        clear kc3 kf3 kz3 ky3 kx3 kv3 ku3
        go_wp2
        rw [hnone.out]
        refine bodyPost_ret (v := .tuple #[.agg #[.int .i64 0, .int .i64 0], .bool false]) (by simp only [results, Try.results115]; go_simp) rfl ⟨rfl, ?_⟩
        (repeat (first | with_reducible exact Below.refl _ _ | with_reducible assumption | with_reducible refine balloc ?_ _ | with_reducible refine bdrew ?_ | with_reducible refine below_drewN ?_ _ | with_reducible refine bset ?_ ?_ _ | with_reducible exact Nat.le_refl _ | with_reducible refine bsize ?_ | (dsimp only; refine Nat.le_trans ?_ (Nat.le_add_right _ _)) | with_reducible refine Nat.le_trans ?_ (Nat.le_add_right _ _) | (with_reducible refine bstep ?_ (by assumption))))
      · have hB' := hB
        unfold twoB at hB'
        rw [Bool.and_eq_true] at hB'
        have eN : twoN (okk x y p.1 p.2) (x * p.2 + p.1 * y) (y * p.2) = lowN (x * p.2 + p.1 * y) (y * p.2) := by unfold twoN; rw [if_pos hB'.1]
        have eD : twoD (okk x y p.1 p.2) (x * p.2 + p.1 * y) (y * p.2) = lowD (x * p.2 + p.1 * y) (y * p.2) := by unfold twoD; rw [if_pos hB'.1]
        have hnew := Lib.hid (amB_low _ _ hB'.2)
        have hnext : Hid (sumL (l.drop (k + 1)) (lowN (x * p.2 + p.1 * y) (y * p.2)) (lowD (x * p.2 + p.1 * y) (y * p.2)) = sumL l 0 1) := by
          have h := hstep.out
          rw [← hokk, hB'.1, hB'.2] at h
          have h2 : sumL (l.drop (k + 1)) (lowN (x * p.2 + p.1 * y) (y * p.2)) (lowD (x * p.2 + p.1 * y) (y * p.2)) = sumL l 0 1 := by simpa using h
          exact h2
        have HC := Lib.hid hcon
        have HE := Lib.hid eN
        have HD := Lib.hid eD
        clear hcon hokk hstep hB' eN eD
        go_wp2_with fail
        refine (HC.out _).mono ?_
        rintro e w3 ⟨rfl, hb3⟩
        rw [hB, HE.out, HD.out]
        clear HC HE HD hB
        obtain ⟨kc3, kf3, kz3, ky3, kx3, kv3, ku3⟩ := bcell hb3
        have z1 : w.heap.size < wr.heap.size := by omega
        have z3 : w.heap.size + 1 + 1 < wr.heap.size := by omega
        have q0 : w3.cell? ⟨w.heap.size, 0, none⟩ = some (.int .i64 0) := by rw [kc3 _ _ (by simp; omega)]; simp [go_sem, r1, z1]
        have q1 : w3.cell? ⟨w.heap.size, 1, none⟩ = some (.int .i64 0) := by rw [kc3 _ _ (by simp; omega)]; simp [go_sem, r2, z1]
        have q2 : w3.frozen? ⟨w.heap.size, 0, none⟩ = false := by rw [kf3 _ _ (by simp; omega)]; simp [go_sem, r3, z1]
        have q3 : w3.frozen? ⟨w.heap.size, 1, none⟩ = false := by rw [kf3 _ _ (by simp; omega)]; simp [go_sem, r4, z1]
        have q4 : w3.cell? ⟨w.heap.size + 1 + 1, 0, none⟩ = some (.int .i64 x) := by rw [kc3 _ _ (by simp; omega)]; simp [go_sem, s1, z3]
        have q5 : w3.cell? ⟨w.heap.size + 1 + 1, 1, none⟩ = some (.int .i64 y) := by rw [kc3 _ _ (by simp; omega)]; simp [go_sem, s2, z3]
        have q6 : w3.frozen? ⟨w.heap.size + 1 + 1, 0, none⟩ = false := by rw [kf3 _ _ (by simp; omega)]; simp [go_sem, s3, z3]
        have q7 : w3.frozen? ⟨w.heap.size + 1 + 1, 1, none⟩ = false := by rw [kf3 _ _ (by simp; omega)]; simp [go_sem, s4, z3]
        have z2 := kz3 w.heap.size (by simp; omega)
        have z4 := kz3 (w.heap.size + 1 + 1) (by simp; omega)
        clear kc3 kf3 kz3 ky3 kx3 kv3 ku3
        go_wp2
        go_roundw
        case rel =>
          refine ⟨k + 1, by omega, by go_num, _, _, hnew, hnext, by simp [go_sem, q4, q5, z4], by simp [go_sem, q4, q5, z4], by simp [go_sem, q6, z4], by simp [go_sem, q7, z4], by simp [go_sem, q0, z2], by simp [go_sem, q1, z2], by simp [go_sem, q2, z2], by simp [go_sem, q3, z2], by simp; omega, ?_⟩
          (repeat (first | with_reducible exact Below.refl _ _ | with_reducible assumption | with_reducible refine balloc ?_ _ | with_reducible refine bdrew ?_ | with_reducible refine below_drewN ?_ _ | with_reducible refine bset ?_ ?_ _ | with_reducible exact Nat.le_refl _ | with_reducible refine bsize ?_ | (dsimp only; refine Nat.le_trans ?_ (Nat.le_add_right _ _)) | with_reducible refine Nat.le_trans ?_ (Nat.le_add_right _ _) | (with_reducible refine bstep ?_ (by assumption))))
        case measure => simp [intOf]; omega
    · have hkl : k = l.length := by omega
      subst hkl
      have hfin : sumL l 0 1 = some (x, y) := by
        have := hfold.out
        rw [List.drop_length] at this
        exact this.symm
      have HF := Lib.hid hfin
      clear hfin hfold
      go_wp2
      rw [HF.out]
      refine bodyPost_ret (v := .tuple #[.agg #[.int .i64 x, .int .i64 y], .bool true]) (by simp only [results, Try.results115]; go_simp) rfl ⟨rfl, ?_⟩
      (repeat (first | with_reducible exact Below.refl _ _ | with_reducible assumption | with_reducible refine balloc ?_ _ | with_reducible refine bdrew ?_ | with_reducible refine below_drewN ?_ _ | with_reducible refine bset ?_ ?_ _ | with_reducible exact Nat.le_refl _ | with_reducible refine bsize ?_ | (dsimp only; refine Nat.le_trans ?_ (Nat.le_add_right _ _)) | with_reducible refine Nat.le_trans ?_ (Nat.le_add_right _ _) | (with_reducible refine bstep ?_ (by assumption))))

/-- addUp of none. -/
theorem addUp_nil (w : World) :
    Calls Try.prog 115 #[.slice none 0 0] w fun e w' => e = .returned (.tuple #[.agg #[.int .i64 0, .int .i64 1], .bool true]) ∧ Below w.heap.size w w' := by
  go_enter Try.func115, Try.ntmps115
  go_wp2_with (go_at_call 52; refine (whole_is_impl _ _).mono ?_; rintro e w1 ⟨rfl, rfl⟩)
  go_loopw [12] (fun i wr => i = .int .i64 0 ∧ wr = ((w.alloc (.cells #[.int .i64 0, .int .i64 0] 26)).alloc (.cells #[.int .i64 0, .int .i64 1] 26)).alloc (.cells #[.int .i64 0, .int .i64 1] 26)) (fun _ _ => 0)
  case atStart => exact ⟨rfl, rfl⟩
  case round =>
    obtain ⟨rfl, rfl⟩ := hrel
    go_wp2
    refine bodyPost_ret (v := .tuple #[.agg #[.int .i64 0, .int .i64 1], .bool true]) (by simp only [results, Try.results115]; go_simp) rfl ⟨rfl, ?_⟩
    (repeat (first | with_reducible exact Below.refl _ _ | with_reducible assumption | with_reducible refine balloc ?_ _ | with_reducible refine bdrew ?_ | with_reducible refine below_drewN ?_ _ | with_reducible refine bset ?_ ?_ _ | with_reducible exact Nat.le_refl _ | with_reducible refine bsize ?_ | (dsimp only; refine Nat.le_trans ?_ (Nat.le_add_right _ _)) | with_reducible refine Nat.le_trans ?_ (Nat.le_add_right _ _) | (with_reducible refine bstep ?_ (by assumption))))
/-- addUp at whatever slice. -/
theorem addUp_row (v : Value) (l : List (Int × Int)) (w : World) (h : RowG 2 fAmt w v l) :
    Calls Try.prog 115 #[v] w fun e w' => e = .returned (.tuple #[.agg #[.int .i64 (oN (sumL l 0 1)), .int .i64 (oD (sumL l 0 1))], .bool (oB (sumL l 0 1))]) ∧ Below w.heap.size w w' := by
  rcases h with ⟨rfl, rfl⟩ | ⟨a, cap, rfl, hL⟩
  · exact addUp_nil w
  · exact addUp_some a cap l w hL
end Go.Proofs.Ytgpbkjakmbmccaa
