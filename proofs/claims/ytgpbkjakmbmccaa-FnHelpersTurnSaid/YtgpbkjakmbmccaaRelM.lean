/- Relays: helpers stay: plain facts; what is told of a meeting, of the program. -/
import Derived.Test.YtgpbkjakmbmccaaRelJ
import Derived.Test.YtgpbkjakmbmccaaRelC
namespace Go.Proofs.Ytgpbkjakmbmccaa
open Go.ChangeShapes Go.WideShapes Go.ChangeAt Go.RowKit Go.Joins
set_option maxRecDepth 100000
set_option linter.unusedVariables false
set_option linter.unusedSimpArgs false


/-- How far from the start the handover number j is. -/
def hsX (n j : Nat) : Int := (hP 1 n).1 * (hP 1 (n - j)).2 - (hP 1 (n - j)).1 * (hP 1 n).2
def hsY (n j : Nat) : Int := (hP 1 n).2 * (hP 1 (n - j)).2
def hsP (n j : Nat) : Int × Int := (lowN (hsX n j) (hsY n j), lowD (hsX n j) (hsY n j))
def hsOk (n j : Nat) : Bool :=
  amB (hP 1 n).1 (hP 1 n).2 && amB (hP 1 (n - (j + 1))).1 (hP 1 (n - (j + 1))).2 && lowB (hsX n (j + 1)) (hsY n (j + 1)) && amB (hsP n j).1 (hsP n j).2 && amB 1 ((n : Int) - j) &&
  (lowN ((hsP n j).1 * ((n : Int) - j) + 1 * (hsP n j).2) ((hsP n j).2 * ((n : Int) - j)) == (hsP n (j + 1)).1) && (lowD ((hsP n j).1 * ((n : Int) - j) + 1 * (hsP n j).2) ((hsP n j).2 * ((n : Int) - j)) == (hsP n (j + 1)).2) &&
  (lowN ((n : Int) - j - 1) ((n : Int) - j) == (n : Int) - j - 1) && (lowD ((n : Int) - j - 1) ((n : Int) - j) == (n : Int) - j) && (lowN 0 ((n : Int) - j) == 0) && (lowD 0 ((n : Int) - j) == 1)
theorem hs_all : ∀ n, n < 21 → ∀ j, j < n - 1 → hsOk n j = true := by decide +kernel
theorem hs_zero : ∀ n, n < 21 → (hsP n 0 == (0, 1)) = true := by decide +kernel
structure HsBd (n j : Nat) : Prop where
  a1 : amB (hP 1 n).1 (hP 1 n).2 = true
  a2 : amB (hP 1 (n - (j + 1))).1 (hP 1 (n - (j + 1))).2 = true
  lb : lowB (hsX n (j + 1)) (hsY n (j + 1)) = true
  a3 : amB (hsP n j).1 (hsP n j).2 = true
  a4 : amB 1 ((n : Int) - j) = true
  m1 : lowN ((hsP n j).1 * ((n : Int) - j) + 1 * (hsP n j).2) ((hsP n j).2 * ((n : Int) - j)) = (hsP n (j + 1)).1
  m2 : lowD ((hsP n j).1 * ((n : Int) - j) + 1 * (hsP n j).2) ((hsP n j).2 * ((n : Int) - j)) = (hsP n (j + 1)).2
  g1 : lowN ((n : Int) - j - 1) ((n : Int) - j) = (n : Int) - j - 1
  g2 : lowD ((n : Int) - j - 1) ((n : Int) - j) = (n : Int) - j
  k1 : lowN 0 ((n : Int) - j) = 0
  k2 : lowD 0 ((n : Int) - j) = 1
theorem hs_bd (n j : Nat) (h1 : n < 21) (h2 : j < n - 1) : HsBd n j := by
  have h := hs_all n h1 j h2
  simp only [hsOk, Bool.and_eq_true, beq_iff_eq] at h
  obtain ⟨⟨⟨⟨⟨⟨⟨⟨⟨⟨a1, a2⟩, lb⟩, a3⟩, a4⟩, m1⟩, m2⟩, g1⟩, g2⟩, k1⟩, k2⟩ := h
  exact ⟨a1, a2, lb, a3, a4, m1, m2, g1, g2, k1, k2⟩
def hsF (n i : Nat) : HandV := ⟨(hsP n (i + 1)).1, (hsP n (i + 1)).2, (n : Int) - i - 1, (n : Int) - i, 0, 1⟩
def hsL (t : Int) : List HandV := if inB t 1 20 = true then hL (hsF t.toNat) (t.toNat - 1) else []
theorem hsL_no (t : Int) (h : inB t 1 20 = false) : hsL t = [] := by simp [hsL, h]
theorem hsL_yes (n : Nat) (h : inB (n : Int) 1 20 = true) : hsL n = hL (hsF n) (n - 1) := by simp [hsL, h]
theorem stayStops_len (t : Int) : (hsL t).length ≤ 1000 := by
  cases h : inB t 1 20
  · rw [hsL_no t h]; simp
  · have hb := in_yes t h
    simp only [hsL, h, if_true, hL_len]; omega
theorem harm_at (n : Nat) (x : Int) (m : Nat) (hx : x = m) (hm : m ≤ 20) (W : World) :
    Calls Try.prog 81 #[.int .i64 x] W fun e w' => e = .returned (.tuple #[.agg #[.int .i64 (hP 1 m).1, .int .i64 (hP 1 m).2], .bool true]) ∧ Below W.heap.size W w' := by
  subst hx
  have h := hsH_impl (m : Int) W
  have hin : inB (m : Int) 0 20 = true := by simp [inB]; omega
  have e1 : hNH (m : Int) = (hP 1 m).1 := by simp [hNH, hin]
  have e2 : hDH (m : Int) = (hP 1 m).2 := by simp [hDH, hin]
  rw [hin, e1, e2] at h
  exact h
theorem am_i64 (n d : Int) (h : amB n d = true) : (-9223372036854775808 ≤ n ∧ n ≤ 9223372036854775807) ∧ -9223372036854775808 ≤ d ∧ d ≤ 9223372036854775807 := by
  have := (amB_iff n d).1 h; omega

set_option maxHeartbeats 3200000 in
theorem clo_stay (n i : Nat) (hn : n < 21) (hi : i < n - 1) (g : Nat) (w : World) (hc0 : w.cell? ⟨g, 0, none⟩ = some (.int .i64 (hP 1 n).1)) (hc1 : w.cell? ⟨g, 1, none⟩ = some (.int .i64 (hP 1 n).2)) :
    Calls Try.prog 108 #[.agg #[.int .i64 ((n : Int) - i), .int .i64 ((n : Int) - i - 1), .int .i64 0], .pointer (some ⟨g, 0, none⟩)] w fun e w' => e = .returned (.agg #[.int .i64 (hsF n i).a, .int .i64 (hsF n i).b, .int .i64 (hsF n i).c, .int .i64 (hsF n i).d, .int .i64 (hsF n i).e, .int .i64 (hsF n i).f]) ∧ Below w.heap.size w w' := by
  have hg : g < w.heap.size := cell_lt hc0
  have hB := hs_bd n i hn hi
  have HH := Lib.hid (fun W : World => harm_at n ((n : Int) - i - 1) (n - (i + 1)) (by omega) (by omega) W)
  have hL1 := fun W : World => minus_pub_impl _ _ _ _ (am_i64 _ _ hB.a1).1 (am_i64 _ _ hB.a1).2 (am_i64 _ _ hB.a2).1 (am_i64 _ _ hB.a2).2 W
  have hok : okk (hP 1 n).1 (hP 1 n).2 (hP 1 (n - (i + 1))).1 (hP 1 (n - (i + 1))).2 = true := by simp [okk, hB.a1, hB.a2]
  rw [hok, (two_yes _ _).1, (two_yes _ _).2.1, (two_yes _ _).2.2] at hL1
  have HL := Lib.hid (show ∀ W : World, Calls Try.prog 28 #[.agg #[.int .i64 (hP 1 n).1, .int .i64 (hP 1 n).2], .agg #[.int .i64 (hP 1 (n - (i + 1))).1, .int .i64 (hP 1 (n - (i + 1))).2]] W fun e w' => e = .returned (.tuple #[.agg #[.int .i64 (hsP n (i + 1)).1, .int .i64 (hsP n (i + 1)).2], .bool (lowB (hsX n (i + 1)) (hsY n (i + 1)))]) ∧ Below W.heap.size W w' from hL1)
  have hs1 := fun W : World => share_impl ((n : Int) - i - 1) ((n : Int) - i) (by omega) (by omega) W
  rw [hB.g1, hB.g2] at hs1
  have hs2 := fun W : World => share_impl 0 ((n : Int) - i) (by omega) (by omega) W
  rw [hB.k1, hB.k2] at hs2
  have HS1 := Lib.hid hs1
  have HS2 := Lib.hid hs2
  have ev : (.agg #[.int .i64 (hsF n i).a, .int .i64 (hsF n i).b, .int .i64 (hsF n i).c, .int .i64 (hsF n i).d, .int .i64 (hsF n i).e, .int .i64 (hsF n i).f] : Value) = .agg #[.int .i64 (hsP n (i + 1)).1, .int .i64 (hsP n (i + 1)).2, .int .i64 ((n : Int) - i - 1), .int .i64 ((n : Int) - i), .int .i64 0, .int .i64 1] := rfl
  rw [ev]
  clear hL1 hok hs1 hs2 hB ev
  generalize hsX n (i + 1) = sx at *
  generalize hsY n (i + 1) = sy at *
  generalize (hsP n (i + 1)).1 = X at *
  generalize (hsP n (i + 1)).2 = Y at *
  generalize (hP 1 n).1 = N at *
  generalize (hP 1 n).2 = M at *
  generalize (hP 1 (n - (i + 1))).1 = U at *
  generalize (hP 1 (n - (i + 1))).2 = V at *
  have s0 : w.heap.size < ((w.alloc (.cells #[.int .i64 ((n : Int) - i), .int .i64 ((n : Int) - i - 1), .int .i64 0] 86)).alloc (.cells #[.int .i64 0, .int .i64 0, .int .i64 0, .int .i64 0, .int .i64 0, .int .i64 0] 58)).heap.size := by simp
  have s1 : g < ((w.alloc (.cells #[.int .i64 ((n : Int) - i), .int .i64 ((n : Int) - i - 1), .int .i64 0] 86)).alloc (.cells #[.int .i64 0, .int .i64 0, .int .i64 0, .int .i64 0, .int .i64 0, .int .i64 0] 58)).heap.size := by simp; omega
  have q0 : ((w.alloc (.cells #[.int .i64 ((n : Int) - i), .int .i64 ((n : Int) - i - 1), .int .i64 0] 86)).alloc (.cells #[.int .i64 0, .int .i64 0, .int .i64 0, .int .i64 0, .int .i64 0, .int .i64 0] 58)).cell? ⟨w.heap.size, 0, none⟩ = some (.int .i64 ((n : Int) - i)) := by simp [go_sem]
  have q1 : ((w.alloc (.cells #[.int .i64 ((n : Int) - i), .int .i64 ((n : Int) - i - 1), .int .i64 0] 86)).alloc (.cells #[.int .i64 0, .int .i64 0, .int .i64 0, .int .i64 0, .int .i64 0, .int .i64 0] 58)).cell? ⟨w.heap.size, 1, none⟩ = some (.int .i64 ((n : Int) - i - 1)) := by simp [go_sem]
  have q2 : ((w.alloc (.cells #[.int .i64 ((n : Int) - i), .int .i64 ((n : Int) - i - 1), .int .i64 0] 86)).alloc (.cells #[.int .i64 0, .int .i64 0, .int .i64 0, .int .i64 0, .int .i64 0, .int .i64 0] 58)).cell? ⟨w.heap.size, 2, none⟩ = some (.int .i64 0) := by simp [go_sem]
  have q3 : ((w.alloc (.cells #[.int .i64 ((n : Int) - i), .int .i64 ((n : Int) - i - 1), .int .i64 0] 86)).alloc (.cells #[.int .i64 0, .int .i64 0, .int .i64 0, .int .i64 0, .int .i64 0, .int .i64 0] 58)).cell? ⟨g, 0, none⟩ = some (.int .i64 N) := by simp [go_sem, hc0, hg]
  have q4 : ((w.alloc (.cells #[.int .i64 ((n : Int) - i), .int .i64 ((n : Int) - i - 1), .int .i64 0] 86)).alloc (.cells #[.int .i64 0, .int .i64 0, .int .i64 0, .int .i64 0, .int .i64 0, .int .i64 0] 58)).cell? ⟨g, 1, none⟩ = some (.int .i64 M) := by simp [go_sem, hc1, hg]
  go_enter Try.func108, Try.ntmps108
  go_wp2_with fail
  refine (HH.out _).mono ?_
  rintro e w1 ⟨rfl, hb1⟩
  have k0 := keepa hb1 s0 q0
  have k1 := keepa hb1 s0 q1
  have k2 := keepa hb1 s0 q2
  have k3 := keepa hb1 s1 q3
  have k4 := keepa hb1 s1 q4
  have l1 : w.heap.size < w1.heap.size := Nat.lt_of_lt_of_le s0 hb1.size
  have lg : g < w1.heap.size := Nat.lt_of_lt_of_le s1 hb1.size
  go_wp2_with fail
  refine (HL.out _).mono ?_
  rintro e w2 ⟨rfl, hb2⟩
  have j0 : w2.cell? ⟨w.heap.size, 0, none⟩ = some (.int .i64 ((n : Int) - i)) := keepa hb2 (by simp; omega) (by simp [go_sem, k0, l1])
  have j1 : w2.cell? ⟨w.heap.size, 1, none⟩ = some (.int .i64 ((n : Int) - i - 1)) := keepa hb2 (by simp; omega) (by simp [go_sem, k1, l1])
  have j2 : w2.cell? ⟨w.heap.size, 2, none⟩ = some (.int .i64 0) := keepa hb2 (by simp; omega) (by simp [go_sem, k2, l1])
  have l2 : w.heap.size < w2.heap.size := Nat.lt_of_lt_of_le (by simp; omega) hb2.size
  go_upto_region 3 with fail
  refine wp_region_noPanic ?_
  refine wp_region_T 12 (fun W => W.cell? ⟨w.heap.size, 0, none⟩ = some (.int .i64 ((n : Int) - i)) ∧ W.cell? ⟨w.heap.size, 1, none⟩ = some (.int .i64 ((n : Int) - i - 1)) ∧ W.cell? ⟨w.heap.size, 2, none⟩ = some (.int .i64 0) ∧ W.cell? ⟨w2.heap.size, 0, none⟩ = some (.int .i64 X) ∧ W.cell? ⟨w2.heap.size, 1, none⟩ = some (.int .i64 Y)) (by kernel_rfl) (by refine ⟨?_, ?_, ?_, ?_, ?_⟩ <;> simp [go_sem, j0, j1, j2, l2]) (fun hHeld => ?_)
  (refine wpAnyT_take (i := 0) (v := ?_) (by rfl) (by kernel_rfl) (by kernel_rfl) (by kernel_rfl) (by kernel_rfl) (fun _ _ _ h => h) (Or.inl ⟨by rfl, ?_⟩) (by assumption) ?_; rotate_left; (focus (intro w hSw; (try dsimp only at hSw); go_simp; (try with_reducible rfl))); (try simp only [Act.put, List.setIfInBounds_toArray, List.set_cons_zero, List.set_cons_succ]))
  (refine wpAnyT_take (i := 1) (v := ?_) (by rfl) (by kernel_rfl) (by kernel_rfl) (by kernel_rfl) (by kernel_rfl) (fun _ _ _ h => h) (Or.inl ⟨by rfl, ?_⟩) (by assumption) ?_; rotate_left; (focus (intro w hSw; (try dsimp only at hSw); go_simp; (try with_reducible rfl))); (try simp only [Act.put, List.setIfInBounds_toArray, List.set_cons_zero, List.set_cons_succ]))
  (refine wpAnyT_take (i := 2) (v := ?_) (by rfl) (by kernel_rfl) (by kernel_rfl) (by kernel_rfl) (by kernel_rfl) (fun _ _ _ h => h) (Or.inl ⟨by rfl, ?_⟩) (by assumption) ?_; rotate_left; (focus (intro w hSw; (try dsimp only at hSw); go_simp; (try with_reducible rfl))); (try simp only [Act.put, List.setIfInBounds_toArray, List.set_cons_zero, List.set_cons_succ]))
  (refine wpAnyT_take (i := 3) (v := ?_) (by rfl) (by kernel_rfl) (by kernel_rfl) (by kernel_rfl) (by kernel_rfl) (fun _ _ _ h => h) (Or.inl ⟨by rfl, ?_⟩) (by assumption) ?_; rotate_left; (focus (intro w hSw; (try dsimp only at hSw); go_simp; (try with_reducible rfl))); (try simp only [Act.put, List.setIfInBounds_toArray, List.set_cons_zero, List.set_cons_succ]))
  (refine wpAnyT_take (i := 4) (v := ?_) (by rfl) (by kernel_rfl) (by kernel_rfl) (by kernel_rfl) (by kernel_rfl) (fun _ _ _ h => h) (Or.inl ⟨by rfl, ?_⟩) (by assumption) ?_; rotate_left; (focus (intro w hSw; (try dsimp only at hSw); go_simp; (try with_reducible rfl))); (try simp only [Act.put, List.setIfInBounds_toArray, List.set_cons_zero, List.set_cons_succ]))
  (refine wpAnyT_take (i := 6) (v := ?_) (by rfl) (by kernel_rfl) (by kernel_rfl) (by kernel_rfl) (by kernel_rfl) (fun _ _ _ h => h) (Or.inl ⟨by rfl, ?_⟩) (by assumption) ?_; rotate_left; (focus (intro w hSw; (try dsimp only at hSw); go_simp; (try with_reducible rfl))); (try simp only [Act.put, List.setIfInBounds_toArray, List.set_cons_zero, List.set_cons_succ]))
  (refine wpAnyT_take (i := 7) (v := ?_) (by rfl) (by kernel_rfl) (by kernel_rfl) (by kernel_rfl) (by kernel_rfl) (fun _ _ _ h => h) (Or.inl ⟨by rfl, ?_⟩) (by assumption) ?_; rotate_left; (focus (intro w hSw; (try dsimp only at hSw); go_simp; (try with_reducible rfl))); (try simp only [Act.put, List.setIfInBounds_toArray, List.set_cons_zero, List.set_cons_succ]))
  (refine wpAnyT_take (i := 8) (v := ?_) (by rfl) (by kernel_rfl) (by kernel_rfl) (by kernel_rfl) (by kernel_rfl) (fun _ _ _ h => h) (Or.inl ⟨by rfl, ?_⟩) (by assumption) ?_; rotate_left; (focus (intro w hSw; (try dsimp only at hSw); go_simp; (try with_reducible rfl))); (try simp only [Act.put, List.setIfInBounds_toArray, List.set_cons_zero, List.set_cons_succ]))
  (refine wpAnyT_take (i := 9) (v := ?_) (by rfl) (by kernel_rfl) (by kernel_rfl) (by kernel_rfl) (by kernel_rfl) (fun _ _ _ h => h) (Or.inl ⟨by rfl, ?_⟩) (by assumption) ?_; rotate_left; (focus (intro w hSw; (try dsimp only at hSw); go_simp; (try with_reducible rfl))); (try simp only [Act.put, List.setIfInBounds_toArray, List.set_cons_zero, List.set_cons_succ]))
  (refine wpAnyT_one (i := 5) (by kernel_rfl) (by rfl) (fun K hK => ?_); go_simp; (go_at_call 107; refine (HS1.out _).mono ?_; rintro e w3 ⟨rfl, hb3⟩; (have f3 : Below ((w.alloc (.cells #[.int .i64 ((n : Int) - i), .int .i64 ((n : Int) - i - 1), .int .i64 0] 86)).alloc (.cells #[.int .i64 0, .int .i64 0, .int .i64 0, .int .i64 0, .int .i64 0, .int .i64 0] 58)).heap.size ((w.alloc (.cells #[.int .i64 ((n : Int) - i), .int .i64 ((n : Int) - i - 1), .int .i64 0] 86)).alloc (.cells #[.int .i64 0, .int .i64 0, .int .i64 0, .int .i64 0, .int .i64 0, .int .i64 0] 58)) w3 := by (repeat (first | with_reducible exact Below.refl _ _ | with_reducible assumption | with_reducible refine balloc ?_ _ | with_reducible refine bdrew ?_ | with_reducible refine below_drewN ?_ _ | with_reducible refine bset ?_ ?_ _ | with_reducible exact Nat.le_refl _ | with_reducible refine bsize ?_ | (dsimp only; refine Nat.le_trans ?_ (Nat.le_add_right _ _)) | with_reducible refine Nat.le_trans ?_ (Nat.le_add_right _ _) | (with_reducible refine bstep ?_ (by assumption))))); (have ya3 : w.heap.size < w3.heap.size := Nat.lt_of_lt_of_le (by first | (simp; done) | (simp; omega)) hb3.size); (have yb3 : w2.heap.size < w3.heap.size := Nat.lt_of_lt_of_le (by first | (simp; done) | (simp; omega)) hb3.size); (have g30 := keepa hb3 (by first | (simp; done) | (simp; omega)) hHeld.1); (have g31 := keepa hb3 (by first | (simp; done) | (simp; omega)) hHeld.2.1); (have g32 := keepa hb3 (by first | (simp; done) | (simp; omega)) hHeld.2.2.1); (have g33 := keepa hb3 (by first | (simp; done) | (simp; omega)) hHeld.2.2.2.1); (have g34 := keepa hb3 (by first | (simp; done) | (simp; omega)) hHeld.2.2.2.2)); (try go_wp2_with fail); refine hK.out _ _ (Or.inr (by exact ⟨g30, g31, g32, g33, g34⟩)) (fun hHeld => ?_); replace hHeld := hHeld.resolve_left (by decide); clear hK; clear K; (try simp only [Act.put, List.setIfInBounds_toArray, List.set_cons_zero, List.set_cons_succ]))
  (refine wpAnyT_one (i := 10) (by kernel_rfl) (by rfl) (fun K hK => ?_); go_simp; (go_at_call 107; refine (HS2.out _).mono ?_; rintro e w4 ⟨rfl, hb4⟩; (have f4 : Below ((w.alloc (.cells #[.int .i64 ((n : Int) - i), .int .i64 ((n : Int) - i - 1), .int .i64 0] 86)).alloc (.cells #[.int .i64 0, .int .i64 0, .int .i64 0, .int .i64 0, .int .i64 0, .int .i64 0] 58)).heap.size ((w.alloc (.cells #[.int .i64 ((n : Int) - i), .int .i64 ((n : Int) - i - 1), .int .i64 0] 86)).alloc (.cells #[.int .i64 0, .int .i64 0, .int .i64 0, .int .i64 0, .int .i64 0, .int .i64 0] 58)) w4 := bstep f3 hb4); (have ya4 : w.heap.size < w4.heap.size := Nat.lt_of_lt_of_le ya3 hb4.size); (have yb4 : w2.heap.size < w4.heap.size := Nat.lt_of_lt_of_le yb3 hb4.size); (have g40 := keepa hb4 ya3 hHeld.1); (have g41 := keepa hb4 ya3 hHeld.2.1); (have g42 := keepa hb4 ya3 hHeld.2.2.1); (have g43 := keepa hb4 yb3 hHeld.2.2.2.1); (have g44 := keepa hb4 yb3 hHeld.2.2.2.2)); (try go_wp2_with fail); refine hK.out _ _ (Or.inr (by exact ⟨g40, g41, g42, g43, g44⟩)) (fun hHeld => ?_); replace hHeld := hHeld.resolve_left (by decide); clear hK; clear K; (try simp only [Act.put, List.setIfInBounds_toArray, List.set_cons_zero, List.set_cons_succ]))
  (refine wpAnyT_take (i := 11) (v := ?_) (by rfl) (by kernel_rfl) (by kernel_rfl) (by kernel_rfl) (by kernel_rfl) (fun _ _ _ h => h) (Or.inl ⟨by rfl, ?_⟩) (by assumption) ?_; rotate_left; (focus (intro w hSw; (try dsimp only at hSw); go_simp; (try with_reducible rfl))); (try simp only [Act.put, List.setIfInBounds_toArray, List.set_cons_zero, List.set_cons_succ]))
  have sr : w.heap.size + 1 < ((w.alloc (.cells #[.int .i64 ((n : Int) - i), .int .i64 ((n : Int) - i - 1), .int .i64 0] 86)).alloc (.cells #[.int .i64 0, .int .i64 0, .int .i64 0, .int .i64 0, .int .i64 0, .int .i64 0] 58)).heap.size := by simp
  have r0 := keepa f4 sr (show ((w.alloc (.cells #[.int .i64 ((n : Int) - i), .int .i64 ((n : Int) - i - 1), .int .i64 0] 86)).alloc (.cells #[.int .i64 0, .int .i64 0, .int .i64 0, .int .i64 0, .int .i64 0, .int .i64 0] 58)).cell? ⟨w.heap.size + 1, 0, none⟩ = some (.int .i64 0) by simp [go_sem])
  have t0 := keepf f4 sr (show ((w.alloc (.cells #[.int .i64 ((n : Int) - i), .int .i64 ((n : Int) - i - 1), .int .i64 0] 86)).alloc (.cells #[.int .i64 0, .int .i64 0, .int .i64 0, .int .i64 0, .int .i64 0, .int .i64 0] 58)).frozen? ⟨w.heap.size + 1, 0, none⟩ = false by simp [go_sem])
  have r1 := keepa f4 sr (show ((w.alloc (.cells #[.int .i64 ((n : Int) - i), .int .i64 ((n : Int) - i - 1), .int .i64 0] 86)).alloc (.cells #[.int .i64 0, .int .i64 0, .int .i64 0, .int .i64 0, .int .i64 0, .int .i64 0] 58)).cell? ⟨w.heap.size + 1, 1, none⟩ = some (.int .i64 0) by simp [go_sem])
  have t1 := keepf f4 sr (show ((w.alloc (.cells #[.int .i64 ((n : Int) - i), .int .i64 ((n : Int) - i - 1), .int .i64 0] 86)).alloc (.cells #[.int .i64 0, .int .i64 0, .int .i64 0, .int .i64 0, .int .i64 0, .int .i64 0] 58)).frozen? ⟨w.heap.size + 1, 1, none⟩ = false by simp [go_sem])
  have r2 := keepa f4 sr (show ((w.alloc (.cells #[.int .i64 ((n : Int) - i), .int .i64 ((n : Int) - i - 1), .int .i64 0] 86)).alloc (.cells #[.int .i64 0, .int .i64 0, .int .i64 0, .int .i64 0, .int .i64 0, .int .i64 0] 58)).cell? ⟨w.heap.size + 1, 2, none⟩ = some (.int .i64 0) by simp [go_sem])
  have t2 := keepf f4 sr (show ((w.alloc (.cells #[.int .i64 ((n : Int) - i), .int .i64 ((n : Int) - i - 1), .int .i64 0] 86)).alloc (.cells #[.int .i64 0, .int .i64 0, .int .i64 0, .int .i64 0, .int .i64 0, .int .i64 0] 58)).frozen? ⟨w.heap.size + 1, 2, none⟩ = false by simp [go_sem])
  have r3 := keepa f4 sr (show ((w.alloc (.cells #[.int .i64 ((n : Int) - i), .int .i64 ((n : Int) - i - 1), .int .i64 0] 86)).alloc (.cells #[.int .i64 0, .int .i64 0, .int .i64 0, .int .i64 0, .int .i64 0, .int .i64 0] 58)).cell? ⟨w.heap.size + 1, 3, none⟩ = some (.int .i64 0) by simp [go_sem])
  have t3 := keepf f4 sr (show ((w.alloc (.cells #[.int .i64 ((n : Int) - i), .int .i64 ((n : Int) - i - 1), .int .i64 0] 86)).alloc (.cells #[.int .i64 0, .int .i64 0, .int .i64 0, .int .i64 0, .int .i64 0, .int .i64 0] 58)).frozen? ⟨w.heap.size + 1, 3, none⟩ = false by simp [go_sem])
  have r4 := keepa f4 sr (show ((w.alloc (.cells #[.int .i64 ((n : Int) - i), .int .i64 ((n : Int) - i - 1), .int .i64 0] 86)).alloc (.cells #[.int .i64 0, .int .i64 0, .int .i64 0, .int .i64 0, .int .i64 0, .int .i64 0] 58)).cell? ⟨w.heap.size + 1, 4, none⟩ = some (.int .i64 0) by simp [go_sem])
  have t4 := keepf f4 sr (show ((w.alloc (.cells #[.int .i64 ((n : Int) - i), .int .i64 ((n : Int) - i - 1), .int .i64 0] 86)).alloc (.cells #[.int .i64 0, .int .i64 0, .int .i64 0, .int .i64 0, .int .i64 0, .int .i64 0] 58)).frozen? ⟨w.heap.size + 1, 4, none⟩ = false by simp [go_sem])
  have r5 := keepa f4 sr (show ((w.alloc (.cells #[.int .i64 ((n : Int) - i), .int .i64 ((n : Int) - i - 1), .int .i64 0] 86)).alloc (.cells #[.int .i64 0, .int .i64 0, .int .i64 0, .int .i64 0, .int .i64 0, .int .i64 0] 58)).cell? ⟨w.heap.size + 1, 5, none⟩ = some (.int .i64 0) by simp [go_sem])
  have t5 := keepf f4 sr (show ((w.alloc (.cells #[.int .i64 ((n : Int) - i), .int .i64 ((n : Int) - i - 1), .int .i64 0] 86)).alloc (.cells #[.int .i64 0, .int .i64 0, .int .i64 0, .int .i64 0, .int .i64 0, .int .i64 0] 58)).frozen? ⟨w.heap.size + 1, 5, none⟩ = false by simp [go_sem])
  have sr5 : w.heap.size + 1 < w4.heap.size := Nat.lt_of_lt_of_le sr f4.size
  have bel5 : Below w.heap.size w w4 := bstep (show Below w.heap.size w ((w.alloc (.cells #[.int .i64 ((n : Int) - i), .int .i64 ((n : Int) - i - 1), .int .i64 0] 86)).alloc (.cells #[.int .i64 0, .int .i64 0, .int .i64 0, .int .i64 0, .int .i64 0, .int .i64 0] 58)) by (repeat (first | with_reducible exact Below.refl _ _ | with_reducible assumption | with_reducible refine balloc ?_ _ | with_reducible refine bdrew ?_ | with_reducible refine below_drewN ?_ _ | with_reducible refine bset ?_ ?_ _ | with_reducible exact Nat.le_refl _ | with_reducible refine bsize ?_ | (dsimp only; refine Nat.le_trans ?_ (Nat.le_add_right _ _)) | with_reducible refine Nat.le_trans ?_ (Nat.le_add_right _ _) | (with_reducible refine bstep ?_ (by assumption))))) f4
  clear f3 f4 hb1 hb2 hb3 hb4 q0 q1 q2 q3 q4 s0 s1 sr k0 k1 k2 k3 k4 j0 j1 j2
  refine wpAnyT_one (i := 12) (by kernel_rfl) (by rfl) (fun K hK => ?_)
  go_simp
  refine hK.out _ _ (Or.inl rfl) (fun _ => ?_)
  refine wpAnyT_done (by kernel_rfl) ?_ _
  refine NoPanic.normal ?_
  go_wp2
  refine bodyPost_ret (v := .agg #[.int .i64 X, .int .i64 Y, .int .i64 ((n : Int) - i - 1), .int .i64 ((n : Int) - i), .int .i64 0, .int .i64 1]) (by simp only [results, Try.results108]; go_simp) rfl ⟨rfl, ?_⟩
  first | exact bset (bset (bset (bset (bset (bset bel5 (by simp) _) (by simp) _) (by simp) _) (by simp) _) (by simp) _) (by simp) _ | (repeat (first | with_reducible exact Below.refl _ _ | with_reducible assumption | with_reducible refine balloc ?_ _ | with_reducible refine bdrew ?_ | with_reducible refine below_drewN ?_ _ | with_reducible refine bset ?_ ?_ _ | with_reducible exact Nat.le_refl _ | with_reducible refine bsize ?_ | (dsimp only; refine Nat.le_trans ?_ (Nat.le_add_right _ _)) | with_reducible refine Nat.le_trans ?_ (Nat.le_add_right _ _) | (with_reducible refine bstep ?_ (by assumption))))
set_option maxHeartbeats 800000 in
theorem where_impl (n : Nat) (hn : n ≤ 20) (w : World) :
    Calls Try.prog 80 #[.int .i64 n] w fun e w' => ∃ g, e = .returned (.func (.func 108) #[] #[.pointer (some ⟨g, 0, none⟩)]) ∧ w'.cell? ⟨g, 0, none⟩ = some (.int .i64 (hP 1 n).1) ∧ w'.cell? ⟨g, 1, none⟩ = some (.int .i64 (hP 1 n).2) ∧ g < w'.heap.size ∧ Below w.heap.size w w' := by
  have HH := Lib.hid (fun W : World => harm_at n (n : Int) n rfl hn W)
  generalize (hP 1 n).1 = N at *
  generalize (hP 1 n).2 = M at *
  go_enter Try.func80, Try.ntmps80
  go_wp2_with fail
  refine (HH.out _).mono ?_
  rintro e w1 ⟨rfl, hb1⟩
  go_wp2
  go_ret
  refine ⟨w1.heap.size, rfl, by simp [go_sem], by simp [go_sem], by simp, ?_⟩
  (repeat (first | with_reducible exact Below.refl _ _ | with_reducible assumption | with_reducible refine balloc ?_ _ | with_reducible refine bdrew ?_ | with_reducible refine below_drewN ?_ _ | with_reducible refine bset ?_ ?_ _ | with_reducible exact Nat.le_refl _ | with_reducible refine bsize ?_ | (dsimp only; refine Nat.le_trans ?_ (Nat.le_add_right _ _)) | with_reducible refine Nat.le_trans ?_ (Nat.le_add_right _ _) | (with_reducible refine bstep ?_ (by assumption))))

end Go.Proofs.Ytgpbkjakmbmccaa
