/- Relays: how far, by the kind of help, on both sides; what all drive. -/
import Derived.Test.YtgpbkjakmbmccaaRelB
import Derived.Test.YtgpbkjakmbmccaaReck1
import Derived.Test.YtgpbkjakmbmccaaPubS1
namespace Go.Proofs.Ytgpbkjakmbmccaa
open Go.ChangeShapes Go.WideShapes Go.ChangeAt Go.RowKit Go.Joins
set_option maxRecDepth 100000
set_option linter.unusedVariables false
set_option linter.unusedSimpArgs false


/-- How far n vehicles bring one: 115 helpers stay, 98 they turn back, 114 all come back, 103 rings. -/
def reP (kd : Int) (n : Nat) : Int × Int :=
  if kd = 115 then hP 1 n else if kd = 98 then (lowN (2 * (n : Int)) (n + 1), lowD (2 * (n : Int)) (n + 1)) else if kd = 114 then (lowN (n : Int) (n + 1), lowD (n : Int) (n + 1)) else (lowN (3 * (n : Int) - 1) (n + 1), lowD (3 * (n : Int) - 1) (n + 1))
def OkK (kd : Int) : Prop := kd = 115 ∨ kd = 98 ∨ kd = 114 ∨ kd = 103
def reX (kd n : Int) : Int := if inB n 1 20 = true then (reP kd n.toNat).1 else 0
def reY (kd n : Int) : Int := if inB n 1 20 = true then (reP kd n.toNat).2 else 0
def reAm (kd : Int) (n : Nat) : Bool := amB (reP kd n).1 (reP kd n).2 && decide ((reP kd n).1 ≤ 1000000000)
theorem reAm1 : ∀ n, n < 21 → 0 < n → reAm 115 n = true := by decide +kernel
theorem reAm2 : ∀ n, n < 21 → 0 < n → reAm 98 n = true := by decide +kernel
theorem reAm3 : ∀ n, n < 21 → 0 < n → reAm 114 n = true := by decide +kernel
theorem reAm4 : ∀ n, n < 21 → 0 < n → reAm 103 n = true := by decide +kernel
theorem re_am (kd : Int) (n : Nat) (h : OkK kd) (h0 : 0 < n) (h1 : n < 21) : amB (reP kd n).1 (reP kd n).2 = true := by
  have : reAm kd n = true := by
    rcases h with rfl | rfl | rfl | rfl
    · exact reAm1 n h1 h0
    · exact reAm2 n h1 h0
    · exact reAm3 n h1 h0
    · exact reAm4 n h1 h0
  simp only [reAm, Bool.and_eq_true] at this
  exact this.1
theorem re_no (kd n : Int) (h : inB n 1 20 = false) : reX kd n = 0 ∧ reY kd n = 0 := by simp [reX, reY, h]
theorem re_yes (kd n : Int) (h : inB n 1 20 = true) : reX kd n = (reP kd n.toNat).1 ∧ reY kd n = (reP kd n.toNat).2 := by simp [reX, reY, h]
theorem sh_back (n : Int) : shX n (2 * n) (n + 1) = reX 98 n ∧ shY n (2 * n) (n + 1) = reY 98 n := by
  cases h : inB n 1 20
  · simp [shX, shY, reX, reY, h]
  · obtain ⟨m, rfl⟩ := Int.eq_ofNat_of_zero_le (show 0 ≤ n by have := in_yes n h; omega)
    simp [shX, shY, reX, reY, h, reP]
theorem sh_return (n : Int) : shX n n (n + 1) = reX 114 n ∧ shY n n (n + 1) = reY 114 n := by
  cases h : inB n 1 20
  · simp [shX, shY, reX, reY, h]
  · obtain ⟨m, rfl⟩ := Int.eq_ofNat_of_zero_le (show 0 ≤ n by have := in_yes n h; omega)
    simp [shX, shY, reX, reY, h, reP]
set_option maxHeartbeats 800000 in
theorem StayReach_impl (n : Int) (w : World) :
    Calls Try.prog 44 #[.int .i64 n] w fun e w' => e = .returned (.tuple #[.agg #[.int .i64 (reX 115 n), .int .i64 (reY 115 n)], .bool (inB n 1 20)]) ∧ Below w.heap.size w w' := by
  cases hk : inB n 1 20
  · obtain ⟨e1, e2⟩ := re_no 115 n hk
    rw [e1, e2]; clear e1 e2
    go_enter Try.func44, Try.ntmps44
    go_wp2_with (go_at_call 74; refine (are_impl _ _).mono ?_; rintro e w1 ⟨rfl, rfl⟩; rw [hk])
    refine bodyPost_ret (v := .tuple #[.agg #[.int .i64 0, .int .i64 0], .bool false]) (by simp only [results, Try.results44]; go_simp) rfl ⟨rfl, ?_⟩
    (repeat (first | with_reducible exact Below.refl _ _ | with_reducible assumption | with_reducible refine balloc ?_ _ | with_reducible refine bdrew ?_ | with_reducible refine below_drewN ?_ _ | with_reducible refine bset ?_ ?_ _ | with_reducible exact Nat.le_refl _ | with_reducible refine bsize ?_ | (dsimp only; refine Nat.le_trans ?_ (Nat.le_add_right _ _)) | with_reducible refine Nat.le_trans ?_ (Nat.le_add_right _ _) | (with_reducible refine bstep ?_ (by assumption))))
  · obtain ⟨e1, e2⟩ := re_yes 115 n hk
    have hb := in_yes n hk
    have h20 : inB n 0 20 = true := by simp [inB]; omega
    have hcon := fun W : World => hsH_impl n W
    have e3 : hNH n = (reP 115 n.toNat).1 := by simp [hNH, h20, reP]
    have e4 : hDH n = (reP 115 n.toNat).2 := by simp [hDH, h20, reP]
    rw [h20, e3, e4] at hcon
    rw [e1, e2]
    have HC := Lib.hid hcon
    clear e1 e2 e3 e4 hcon
    go_enter Try.func44, Try.ntmps44
    go_wp2_with (first | (go_at_call 74; refine (are_impl _ _).mono ?_; rintro e w1 ⟨rfl, rfl⟩; rw [hk]) | (go_at_call 81; refine (HC.out _).mono ?_; rintro e w1 ⟨rfl, hb1⟩; obtain ⟨kc1, kf1, kz1, ky1, kx1, kv1, ku1⟩ := bcell hb1))
    refine bodyPost_ret (v := .tuple #[.agg #[.int .i64 (reP 115 n.toNat).1, .int .i64 (reP 115 n.toNat).2], .bool true]) (by simp only [results, Try.results44]; go_simp) rfl ⟨rfl, ?_⟩
    (repeat (first | with_reducible exact Below.refl _ _ | with_reducible assumption | with_reducible refine balloc ?_ _ | with_reducible refine bdrew ?_ | with_reducible refine below_drewN ?_ _ | with_reducible refine bset ?_ ?_ _ | with_reducible exact Nat.le_refl _ | with_reducible refine bsize ?_ | (dsimp only; refine Nat.le_trans ?_ (Nat.le_add_right _ _)) | with_reducible refine Nat.le_trans ?_ (Nat.le_add_right _ _) | (with_reducible refine bstep ?_ (by assumption))))

set_option maxHeartbeats 800000 in
theorem StayReach_spec (n : Int) (w : World) :
    Calls Try.prog 45 #[.int .i64 n] w fun e w' => e = .returned (.tuple #[.agg #[.int .i64 (reX 115 n), .int .i64 (reY 115 n)], .bool (inB n 1 20)]) ∧ Below w.heap.size w w' := by
  cases hk : inB n 1 20
  · obtain ⟨e1, e2⟩ := re_no 115 n hk
    rw [e1, e2]; clear e1 e2
    go_enter Try.func45, Try.ntmps45
    go_wp2_with (go_at_call 77; refine (many_spec _ _).mono ?_; rintro e w1 ⟨rfl, rfl⟩; rw [hk])
    refine bodyPost_ret (v := .tuple #[.agg #[.int .i64 0, .int .i64 0], .bool false]) (by simp only [results, Try.results45]; go_simp) rfl ⟨rfl, ?_⟩
    (repeat (first | with_reducible exact Below.refl _ _ | with_reducible assumption | with_reducible refine balloc ?_ _ | with_reducible refine bdrew ?_ | with_reducible refine below_drewN ?_ _ | with_reducible refine bset ?_ ?_ _ | with_reducible exact Nat.le_refl _ | with_reducible refine bsize ?_ | (dsimp only; refine Nat.le_trans ?_ (Nat.le_add_right _ _)) | with_reducible refine Nat.le_trans ?_ (Nat.le_add_right _ _) | (with_reducible refine bstep ?_ (by assumption))))
  · obtain ⟨e1, e2⟩ := re_yes 115 n hk
    have hb := in_yes n hk
    obtain ⟨n, rfl⟩ := Int.eq_ofNat_of_zero_le (show 0 ≤ n by omega)
    have et : (n : Int).toNat = n := rfl
    rw [e1, e2, et]; clear e1 e2 et
    have e : reP 115 n = hP 1 n := by simp [reP]
    rw [e]
    have hO : OkH 1 n := Or.inl ⟨rfl, by omega⟩
    have HO := Lib.hid hO
    clear hO e
    go_enter Try.func45, Try.ntmps45
    go_wp2_with (first | (go_at_call 77; refine (many_spec _ _).mono ?_; rintro e w1 ⟨rfl, rfl⟩; rw [hk]) | (go_at_call 82; refine (harm_spec 1 n HO.out _).mono ?_; rintro e w1 ⟨rfl, hb1⟩; obtain ⟨kc1, kf1, kz1, ky1, kx1, kv1, ku1⟩ := bcell hb1))
    refine bodyPost_ret (v := .tuple #[.agg #[.int .i64 (hP 1 n).1, .int .i64 (hP 1 n).2], .bool true]) (by simp only [results, Try.results45]; go_simp) rfl ⟨rfl, ?_⟩
    (repeat (first | with_reducible exact Below.refl _ _ | with_reducible assumption | with_reducible refine balloc ?_ _ | with_reducible refine bdrew ?_ | with_reducible refine below_drewN ?_ _ | with_reducible refine bset ?_ ?_ _ | with_reducible exact Nat.le_refl _ | with_reducible refine bsize ?_ | (dsimp only; refine Nat.le_trans ?_ (Nat.le_add_right _ _)) | with_reducible refine Nat.le_trans ?_ (Nat.le_add_right _ _) | (with_reducible refine bstep ?_ (by assumption))))

def ringOk (n : Nat) : Bool :=
  lowB (lowN (2 * (n : Int)) (n + 1) * lowD ((n : Int) - 1) (n + 1) + lowN ((n : Int) - 1) (n + 1) * lowD (2 * (n : Int)) (n + 1)) (lowD (2 * (n : Int)) (n + 1) * lowD ((n : Int) - 1) (n + 1)) &&
  (lowN (lowN (2 * (n : Int)) (n + 1) * lowD ((n : Int) - 1) (n + 1) + lowN ((n : Int) - 1) (n + 1) * lowD (2 * (n : Int)) (n + 1)) (lowD (2 * (n : Int)) (n + 1) * lowD ((n : Int) - 1) (n + 1)) == (reP 103 n).1) &&
  (lowD (lowN (2 * (n : Int)) (n + 1) * lowD ((n : Int) - 1) (n + 1) + lowN ((n : Int) - 1) (n + 1) * lowD (2 * (n : Int)) (n + 1)) (lowD (2 * (n : Int)) (n + 1) * lowD ((n : Int) - 1) (n + 1)) == (reP 103 n).2) &&
  okk (lowN (2 * (n : Int)) (n + 1)) (lowD (2 * (n : Int)) (n + 1)) (lowN ((n : Int) - 1) (n + 1)) (lowD ((n : Int) - 1) (n + 1))
theorem ring_all : ∀ n, n < 21 → 1 < n → ringOk n = true := by decide +kernel
theorem ring_one : reP 103 1 = reP 98 1 := by decide +kernel
theorem low_i64 (n d : Int) : (-9223372036854775808 ≤ lowN n d ∧ lowN n d ≤ 9223372036854775807) ∧ -9223372036854775808 ≤ lowD n d ∧ lowD n d ≤ 9223372036854775807 := by
  cases h : lowB n d
  · rw [lowN_no n d h, lowD_no n d h]; omega
  · have := (amB_iff _ _).1 (amB_low n d h); omega
theorem DrivenByAll_impl (n : Int) (bn : -9223372036854775808 ≤ n ∧ n ≤ 9223372036854775807) (w : World) :
    Calls Try.prog 40 #[.int .i64 n] w fun e w' => e = .returned (.tuple #[.agg #[.int .i64 (shX n n 1), .int .i64 (shY n n 1)], .bool (inB n 1 20)]) ∧ Below w.heap.size w w' := by
  go_enter Try.func40, Try.ntmps40
  (go_wp2_with fail; refine (shareOf_impl n n 1 bn.2 (by omega) _).mono ?_; rintro e w1 ⟨rfl, hb1⟩; have ha1 := hb1; obtain ⟨kc1, kf1, kz1, ky1, kx1, kv1, ku1⟩ := bcell hb1)
  go_wp2
  refine bodyPost_ret (v := .tuple #[.agg #[.int .i64 (shX n n 1), .int .i64 (shY n n 1)], .bool (inB n 1 20)]) (by simp only [results, Try.results40]; go_simp) rfl ⟨rfl, ?_⟩
  (repeat (first | with_reducible exact Below.refl _ _ | with_reducible assumption | with_reducible refine balloc ?_ _ | with_reducible refine bdrew ?_ | with_reducible refine below_drewN ?_ _ | with_reducible refine bset ?_ ?_ _ | with_reducible exact Nat.le_refl _ | with_reducible refine bsize ?_ | (dsimp only; refine Nat.le_trans ?_ (Nat.le_add_right _ _)) | with_reducible refine Nat.le_trans ?_ (Nat.le_add_right _ _) | (with_reducible refine bstep ?_ (by assumption))))
/-- What n vehicles have driven when i of them are home, and the last one is where it stops. -/
def dvN (n i : Nat) : Int := lowN (2 * (n : Int) + (i : Int) * ((i : Int) + 1)) (n + 1)
def dvD (n i : Nat) : Int := lowD (2 * (n : Int) + (i : Int) * ((i : Int) + 1)) (n + 1)
def dvT (n i : Nat) : Int := lowN (2 * ((n : Int) + 1 - ((n : Int) - i))) (n + 1)
def dvU (n i : Nat) : Int := lowD (2 * ((n : Int) + 1 - ((n : Int) - i))) (n + 1)
def dvOk (n i : Nat) : Bool :=
  amB (dvN n i) (dvD n i) && amB (dvT n i) (dvU n i) && lowB (dvN n i * dvU n i + dvT n i * dvD n i) (dvD n i * dvU n i) && (lowN (dvN n i * dvU n i + dvT n i * dvD n i) (dvD n i * dvU n i) == dvN n (i + 1)) && (lowD (dvN n i * dvU n i + dvT n i * dvD n i) (dvD n i * dvU n i) == dvD n (i + 1))
theorem dv_all : ∀ n, n < 21 → 0 < n → ∀ i, i < n - 1 → dvOk n i = true := by decide +kernel
def dvEnd (n : Nat) : Bool := (dvN n (n - 1) == lowN n 1) && (dvD n (n - 1) == lowD n 1)
theorem dv_end : ∀ n, n < 21 → 0 < n → dvEnd n = true := by decide +kernel
theorem dv_zero (n : Nat) : dvN n 0 = lowN (2 * (n : Int)) (n + 1) ∧ dvD n 0 = lowD (2 * (n : Int)) (n + 1) := by simp [dvN, dvD]

end Go.Proofs.Ytgpbkjakmbmccaa
