/- Relays: BackStops and RescueStops, of the program. -/
import Derived.Test.YtgpbkjakmbmccaaRelJ
import Derived.Test.YtgpbkjakmbmccaaAns
namespace Go.Proofs.Ytgpbkjakmbmccaa
open Go.ChangeShapes Go.WideShapes Go.ChangeAt Go.RowKit Go.Joins
set_option maxRecDepth 100000
set_option linter.unusedVariables false
set_option linter.unusedSimpArgs false


/-- A meeting in parts of P. -/
def partF (x y z P : Int) : HandV := ⟨lowN x P, lowD x P, lowN y P, lowD y P, lowN z P, lowD z P⟩
def bkF (n : Int) (i : Nat) : HandV := partF ((i : Int) + 1) (n - ((i : Int) + 1)) ((i : Int) + 1) (n + 1)
def rsF (n : Int) (i : Nat) : HandV := partF (n - (i : Int)) ((i : Int) + 1) 1 (n + 2)
def bkL (t : Int) : List HandV := if inB t 1 20 = true then hL (bkF t) (t.toNat - 1) else []
def rsL (t : Int) : List HandV := if inB t 1 20 = true then hL (rsF t) t.toNat else []
theorem bkL_no (t : Int) (h : inB t 1 20 = false) : bkL t = [] := by simp [bkL, h]
theorem bkL_yes (n : Nat) (h : inB (n : Int) 1 20 = true) : bkL n = hL (bkF n) (n - 1) := by simp [bkL, h]
theorem rsL_no (t : Int) (h : inB t 1 20 = false) : rsL t = [] := by simp [rsL, h]
theorem rsL_yes (n : Nat) (h : inB (n : Int) 1 20 = true) : rsL n = hL (rsF n) n := by simp [rsL, h]
theorem backStops_len (t : Int) : (bkL t).length ≤ 1000 := by
  cases h : inB t 1 20
  · rw [bkL_no t h]; simp
  · have hb := in_yes t h
    simp only [bkL, h, if_true, hL_len]; omega
theorem rescueStops_len (t : Int) : (rsL t).length ≤ 1000 := by
  cases h : inB t 1 20
  · rw [rsL_no t h]; simp
  · have hb := in_yes t h
    simp only [rsL, h, if_true, hL_len]; omega

set_option maxHeartbeats 800000 in
theorem bk_relay (n : Nat) (h1 : 1 ≤ n) (h2 : n ≤ 20) (g : Nat) (w : World) (hc : w.cell? ⟨g, 0, none⟩ = some (.int .i64 ((n : Int) + 1))) :
    Calls Try.prog 75 #[.agg #[.int .i64 (0), .int .i64 ((n : Int)), .int .i64 (0)], .agg #[.int .i64 (1), .int .i64 (-1), .int .i64 (1)], .agg #[.int .i64 ((n : Int) - 1), .int .i64 (1), .int .i64 ((n : Int) - 1)], .func (.func 106) #[] #[.pointer (some ⟨g, 0, none⟩)]] w fun e w' => ∃ v, e = .returned v ∧ w'.ownsRow w.heap.size 58 6 v (n - 1) (cellsG fHand (hL (bkF n) (n - 1))) ∧ Below w.heap.size w w' := by
  obtain ⟨mp, hmp⟩ : ∃ mp : Nat → Int, ∀ k, mp k = (k : Int) := ⟨_, fun _ => rfl⟩
  obtain ⟨mq, hmq⟩ : ∃ mq : Nat → Int, ∀ k, mq k = (n : Int) - k := ⟨_, fun _ => rfl⟩
  obtain ⟨mr, hmr⟩ : ∃ mr : Nat → Int, ∀ k, mr k = (k : Int) := ⟨_, fun _ => rfl⟩
  have hg := cell_lt hc
  have hM : Meets (n - 1) mp mq mr (1) (-1) (1) := by
    refine ⟨by omega, fun k hk => ?_, by omega, fun k hk => ?_, fun k hk => ?_⟩
    all_goals simp only [hmp, hmq, hmr]
    all_goals omega
  have h := relay_parts g (n - 1) mp mq mr (1) (-1) (1) (bkF n) hM w (fun i hi W hB => by
    have hb := hM.bd (i + 1) (by omega)
    have hcl := clo_parts (mp (i + 1)) (mq (i + 1)) (mr (i + 1)) ((n : Int) + 1) hb.1 hb.2.1 hb.2.2 (by omega) g W (keepa hB hg hc)
    have e1 : bkF n i = partF (mp (i + 1)) (mq (i + 1)) (mr (i + 1)) ((n : Int) + 1) := by
      simp only [bkF, hmp, hmq, hmr]
      congr 1 <;> omega
    rw [e1]
    exact hcl)
  have e0 : mp 0 = 0 := by exact (hmp _).trans (by omega)
  have e1 : mq 0 = (n : Int) := by exact (hmq _).trans (by omega)
  have e2 : mr 0 = 0 := by exact (hmr _).trans (by omega)
  have e3 : mp (n - 1) = (n : Int) - 1 := by exact (hmp _).trans (by omega)
  have e4 : mq (n - 1) = 1 := by exact (hmq _).trans (by omega)
  have e5 : mr (n - 1) = (n : Int) - 1 := by exact (hmr _).trans (by omega)
  rw [e0, e1, e2, e3, e4, e5] at h
  exact h

set_option maxHeartbeats 800000 in
theorem rs_relay (n : Nat) (h1 : 1 ≤ n) (h2 : n ≤ 20) (g : Nat) (w : World) (hc : w.cell? ⟨g, 0, none⟩ = some (.int .i64 ((n : Int) + 2))) :
    Calls Try.prog 75 #[.agg #[.int .i64 ((n : Int) + 1), .int .i64 (0), .int .i64 (1)], .agg #[.int .i64 (-1), .int .i64 (1), .int .i64 (0)], .agg #[.int .i64 (1), .int .i64 ((n : Int)), .int .i64 (1)], .func (.func 106) #[] #[.pointer (some ⟨g, 0, none⟩)]] w fun e w' => ∃ v, e = .returned v ∧ w'.ownsRow w.heap.size 58 6 v (n) (cellsG fHand (hL (rsF n) (n))) ∧ Below w.heap.size w w' := by
  obtain ⟨mp, hmp⟩ : ∃ mp : Nat → Int, ∀ k, mp k = (n : Int) + 1 - k := ⟨_, fun _ => rfl⟩
  obtain ⟨mq, hmq⟩ : ∃ mq : Nat → Int, ∀ k, mq k = (k : Int) := ⟨_, fun _ => rfl⟩
  obtain ⟨mr, hmr⟩ : ∃ mr : Nat → Int, ∀ k, mr k = 1 := ⟨_, fun _ => rfl⟩
  have hg := cell_lt hc
  have hM : Meets (n) mp mq mr (-1) (1) (0) := by
    refine ⟨by omega, fun k hk => ?_, by omega, fun k hk => ?_, fun k hk => ?_⟩
    all_goals simp only [hmp, hmq, hmr]
    all_goals omega
  have h := relay_parts g (n) mp mq mr (-1) (1) (0) (rsF n) hM w (fun i hi W hB => by
    have hb := hM.bd (i + 1) (by omega)
    have hcl := clo_parts (mp (i + 1)) (mq (i + 1)) (mr (i + 1)) ((n : Int) + 2) hb.1 hb.2.1 hb.2.2 (by omega) g W (keepa hB hg hc)
    have e1 : rsF n i = partF (mp (i + 1)) (mq (i + 1)) (mr (i + 1)) ((n : Int) + 2) := by
      simp only [rsF, hmp, hmq, hmr]
      congr 1 <;> omega
    rw [e1]
    exact hcl)
  have e0 : mp 0 = (n : Int) + 1 := by exact (hmp _).trans (by omega)
  have e1 : mq 0 = 0 := by exact (hmq _).trans (by omega)
  have e2 : mr 0 = 1 := by exact (hmr _).trans (by omega)
  have e3 : mp (n) = 1 := by exact (hmp _).trans (by omega)
  have e4 : mq (n) = (n : Int) := by exact (hmq _).trans (by omega)
  have e5 : mr (n) = 1 := by exact (hmr _).trans (by omega)
  rw [e0, e1, e2, e3, e4, e5] at h
  exact h

set_option maxHeartbeats 1600000 in
theorem backStops_impl (t : Int) (bt : -9223372036854775808 ≤ t ∧ t ≤ 9223372036854775807) (w : World) :
    Calls Try.prog 32 #[.int .i64 t] w (AnsG 58 6 fHand (bkL t) (inB t 1 20) w) := by
  cases hk : inB t 1 20
  · rw [bkL_no t hk]
    go_enter Try.func32, Try.ntmps32
    go_wp2_with (go_at_call 74; refine (are_impl _ _).mono ?_; rintro e w1 ⟨rfl, rfl⟩; rw [hk])
    go_ret2
    refine ⟨_, rfl, ⟨rfl, Or.inl ⟨rfl, rfl⟩⟩, ?_⟩
    (repeat (first | with_reducible exact Below.refl _ _ | with_reducible assumption | with_reducible refine balloc ?_ _ | with_reducible refine bdrew ?_ | with_reducible refine below_drewN ?_ _ | with_reducible refine bset ?_ ?_ _ | with_reducible exact Nat.le_refl _ | with_reducible refine bsize ?_ | (dsimp only; refine Nat.le_trans ?_ (Nat.le_add_right _ _)) | with_reducible refine Nat.le_trans ?_ (Nat.le_add_right _ _) | (with_reducible refine bstep ?_ (by assumption))))
  · have hb := in_yes t hk
    obtain ⟨n, rfl⟩ := Int.eq_ofNat_of_zero_le (show 0 ≤ t by omega)
    have hn1 : 1 ≤ n := by omega
    have hn2 : n ≤ 20 := by omega
    rw [bkL_yes n hk]
    have HR := Lib.hid (fun (g : Nat) (W : World) => bk_relay n hn1 hn2 g W)
    have hlen : (hL (bkF n) (n - 1)).length = n - 1 := hL_len _ _
    go_enter Try.func32, Try.ntmps32
    go_wp2_with (go_at_call 74; refine (are_impl _ _).mono ?_; rintro e w1 ⟨rfl, rfl⟩; rw [hk])
    refine (inParts_impl _ _).mono ?_
    rintro e w1 ⟨g, rfl, hg, hgl, hb1⟩
    go_wp2_with fail
    refine (HR.out g _ hg).mono ?_
    rintro e w2 ⟨v, rfl, hown, hb2⟩
    go_wp2
    go_ret2
    exact ⟨v, rfl, by rw [hlen]; exact own_mono hown hb1.size, bstep hb1 hb2⟩

end Go.Proofs.Ytgpbkjakmbmccaa
