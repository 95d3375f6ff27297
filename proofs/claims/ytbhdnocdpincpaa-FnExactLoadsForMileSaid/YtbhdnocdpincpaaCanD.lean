/- Cans: the loads of the trips, of the model and of the program. -/
import Derived.Test.YtbhdnocdpincpaaCanA
import Derived.Test.YtbhdnocdpincpaaRep
import Derived.Test.YtbhdnocdpincpaaAns
import Derived.Test.YtbhdnocdpincpaaOInt
import Derived.Test.YtbhdnocdpincpaaApp
import Derived.Test.YtbhdnocdpincpaaRowG
namespace Go.Proofs.Ytbhdnocdpincpaa
open Go.ChangeShapes Go.WideShapes Go.ChangeAt Go.RowKit Go.Joins
set_option maxRecDepth 100000
set_option linter.unusedVariables false
set_option linter.unusedSimpArgs false

def ldB (l c : Int) : Bool := cnTB l c && decide (cnT l c ≤ 1000)
/-- The last trip's load. -/
def ldR (l c : Int) : Int := c - (l - 2) * (cnT l c - 1)
def ldL (l c : Int) : List Int := if ldB l c = true then List.replicate (cnT l c - 1).toNat (l - 2) ++ [ldR l c] else []
theorem ldL_no {l c : Int} (h : ldB l c = false) : ldL l c = [] := by simp [ldL, h]
theorem ldL_len (l c : Int) : (ldL l c).length ≤ 1000 := by
  unfold ldL
  split
  · rename_i h
    simp only [ldB, Bool.and_eq_true, decide_eq_true_eq] at h
    have h2 := h.1
    simp only [cnTB, Bool.and_eq_true, decide_eq_true_eq] at h2
    have hb := cnOk_yes h2.1
    have hT := cnT_bd l c hb.1 hb.2.2.1
    simp only [List.length_append, List.length_replicate, List.length_cons, List.length_nil]
    omega
  · simp
theorem cells_ints (xs : List Int) : cellsG fInt xs = xs.map (Value.int .i64) := by
  induction xs with
  | nil => rfl
  | cons x xs ih => simp [cellsG, fInt] at *; exact ih
theorem cells_rep (n : Nat) (e : Int) : cellsG fInt (List.replicate n e) = List.replicate n (.int .i64 e) := by rw [cells_ints]; simp
theorem prod_bd (a b : Int) (h0 : 0 ≤ a) (h1 : a ≤ 18) (h2 : 0 ≤ b) (h3 : b ≤ 1000) : 0 ≤ a * b ∧ a * b ≤ 18000 := by
  refine ⟨Int.mul_nonneg h0 h2, ?_⟩
  have := Int.mul_le_mul h1 h3 h2 (by omega)
  omega

set_option maxHeartbeats 1600000 in
theorem loads_impl (l c : Int) (w : World) :
    Calls Try.prog 14 #[.int .i64 l, .int .i64 c] w (AnsG 3 1 fInt (ldL l c) (ldB l c) w) := by
  obtain ⟨i0, hi, hz0, hz1, hz2⟩ := info_parts infoInt
  have HT := Lib.hid (fun W : World => trips_eq l c W)
  cases h1 : cnTB l c
  · have e1 : ldB l c = false := by simp [ldB, h1]
    have e2 : cnTV l c = 0 := by simp [cnTV, h1]
    rw [ldL_no e1, e1]
    rw [h1, e2] at HT
    clear e1 e2
    go_enter Try.func14, Try.ntmps14
    go_wp2_with (go_at_call 10; refine (HT.out _).mono ?_; rintro e w1 ⟨rfl, rfl⟩)
    refine bodyPost_ret (v := .tuple #[.slice none 0 0, .bool false]) (by simp only [results, Try.results14]; go_simp) rfl ?_
    exact ans_owns rfl ⟨rfl, Or.inl ⟨rfl, rfl⟩⟩ (by (repeat (first | with_reducible exact Below.refl _ _ | with_reducible assumption | with_reducible refine balloc ?_ _ | with_reducible refine bdrew ?_ | with_reducible refine below_drewN ?_ _ | with_reducible refine bset ?_ ?_ _ | with_reducible exact Nat.le_refl _ | with_reducible refine bsize ?_ | (dsimp only; refine Nat.le_trans ?_ (Nat.le_add_right _ _)) | with_reducible refine Nat.le_trans ?_ (Nat.le_add_right _ _) | (with_reducible refine bstep ?_ (by assumption)))))
  · have h1' := h1
    simp only [cnTB, Bool.and_eq_true, decide_eq_true_eq] at h1'
    have hb := cnOk_yes h1'.1
    have hT := cnT_bd l c hb.1 hb.2.2.1
    have e2 : cnTV l c = cnT l c := by simp [cnTV, h1]
    rw [h1, e2] at HT
    clear e2
    by_cases h2 : cnT l c ≤ 1000
    · have e1 : ldB l c = true := by simp [ldB, h1, h2]
      obtain ⟨m, hm⟩ := Int.eq_ofNat_of_zero_le (show 0 ≤ cnT l c - 1 by omega)
      have eL : ldL l c = List.replicate m (l - 2) ++ [ldR l c] := by
        unfold ldL; rw [if_pos e1, hm]; rfl
      have eR : ldR l c = c - (l - 2) * (cnT l c - 1) := rfl
      have hP := prod_bd (l - 2) (cnT l c - 1) (by omega) (by omega) (by omega) (by omega)
      rw [eL, e1]
      clear eL e1
      generalize ldR l c = r at *
      generalize cnT l c = T at *
      have HR := Lib.hid (fun (ad : Addr) (cp : Nat) (W : World) (hx : W.cell? ad = some (.int .i64 (l - 2))) => (by
        have h := rep_ints (l - 2) m (by omega) ad cp W hx
        rw [← hm] at h
        exact h : Calls Try.prog 31 #[.slice (some ad) 1 cp, .int .i64 (T - 1)] W fun en w' => ∃ v, en = .returned v ∧ w'.ownsRow W.heap.size 3 1 v m (List.replicate m (.int .i64 (l - 2))) ∧ Below W.heap.size W w'))
      have hmb : m ≤ 1000 := by omega
      have hTb : 1 ≤ T ∧ T ≤ 1000 := by omega
      have hmh := Lib.hid hm
      have eRh := Lib.hid eR
      clear hm eR
      have hlen : (List.replicate m (l - 2) ++ [r]).length = m + 1 := by simp
      have hcl := Lib.hid (show cellsG fInt (List.replicate m (l - 2) ++ [r]) = List.replicate m (.int .i64 (l - 2)) ++ [.int .i64 r] by rw [cells_ints]; simp)
      go_enter Try.func14, Try.ntmps14
      go_wp2_with (go_at_call 10; refine (HT.out _).mono ?_; rintro e w1 ⟨rfl, rfl⟩)
      refine (HR.out _ _ _ (by simp [go_sem])).mono ?_
      rintro e w2 ⟨v, rfl, hown, hb2⟩
      have hbel2 : Below w.heap.size w w2 := by (repeat (first | with_reducible exact Below.refl _ _ | with_reducible assumption | with_reducible refine balloc ?_ _ | with_reducible refine bdrew ?_ | with_reducible refine below_drewN ?_ _ | with_reducible refine bset ?_ ?_ _ | with_reducible exact Nat.le_refl _ | with_reducible refine bsize ?_ | (dsimp only; refine Nat.le_trans ?_ (Nat.le_add_right _ _)) | with_reducible refine Nat.le_trans ?_ (Nat.le_add_right _ _) | (with_reducible refine bstep ?_ (by assumption))))
      have hown2 : w2.ownsRow w.heap.size 3 1 v m (List.replicate m (.int .i64 (l - 2))) := own_mono hown (by simp)
      clear hown hb2
      have hsz2 := hbel2.size
      go_wp2_with (at_builtin; refine wpList_append_own _ rfl _ _ 25 rfl w.heap.size 3 i0 (.int .i64 0) 1 8 Try.underlying25 hi hz0 hz1 hz2 rfl (by decide) _ _ _ rfl (by first | exact hown2.alloc _ | exact (hown2.alloc _).alloc _) ⟨w2.heap.size, 0, none⟩ 1 1 [.int .i64 (c - (l - 2) * (T - 1))] ?c0 rfl ?c1 ?c2 ?c3 ?c4 ?c5 ?_)
      case c0 => simp [Act.eval, Act.put]
      case c1 => first | exact cell_one_new _ _ _ | (intro k u hk; match k, hk with | 0, hk => (simp at hk; subst hk; simp [go_sem]))
      case c2 => simp [Value.oneCell']
      case c3 => unfold maxLen; omega
      case c4 => omega
      case c5 => first | (simp; omega) | omega
      intro v' w4 hown' hgrow _
      have hbel4 : Below w.heap.size w w4 := by
        refine (hbel2.alloc hsz2 _).grown hgrow ?_ (fun g e => own_block hown2 e)
        simp; omega
      have hown4 : w4.ownsRow w.heap.size 3 1 v' (List.replicate m (l - 2) ++ [r]).length (cellsG fInt (List.replicate m (l - 2) ++ [r])) := by
        rw [hlen, hcl.out, eRh.out]; exact hown'
      clear hown' hgrow
      go_wp2
      go_ret2
      exact ⟨_, rfl, hown4, hbel4⟩
    · have e1 : ldB l c = false := by simp [ldB, h2]
      rw [ldL_no e1, e1]
      clear e1
      generalize cnT l c = T at *
      go_enter Try.func14, Try.ntmps14
      go_wp2_with (go_at_call 10; refine (HT.out _).mono ?_; rintro e w1 ⟨rfl, rfl⟩)
      all_goals first | (exfalso; rename_i hx; simp at hx; omega) | skip
      all_goals refine bodyPost_ret (v := .tuple #[.slice none 0 0, .bool false]) (by simp only [results, Try.results14]; go_simp) rfl ?_
      all_goals exact ans_owns rfl ⟨rfl, Or.inl ⟨rfl, rfl⟩⟩ (by (repeat (first | with_reducible exact Below.refl _ _ | with_reducible assumption | with_reducible refine balloc ?_ _ | with_reducible refine bdrew ?_ | with_reducible refine below_drewN ?_ _ | with_reducible refine bset ?_ ?_ _ | with_reducible exact Nat.le_refl _ | with_reducible refine bsize ?_ | (dsimp only; refine Nat.le_trans ?_ (Nat.le_add_right _ _)) | with_reducible refine Nat.le_trans ?_ (Nat.le_add_right _ _) | (with_reducible refine bstep ?_ (by assumption)))))

set_option maxHeartbeats 3200000 in
theorem loads_spec (l c : Int) (w : World) :
    Calls Try.prog 13 #[.int .i64 l, .int .i64 c] w (AnsG 3 1 fInt (ldL l c) (ldB l c) w) := by
  obtain ⟨i0, hi, hz0, hz1, hz2⟩ := info_parts infoInt
  cases h1 : cnOk l c
  · have e1 : ldB l c = false := by simp [ldB, cnTB, h1]
    rw [ldL_no e1, e1]
    go_enter Try.func13, Try.ntmps13
    go_wp2_with (go_at_call 25; refine (load_spec _ _ _).mono ?_; rintro e w1 ⟨rfl, rfl⟩; rw [h1])
    refine bodyPost_ret (v := .tuple #[.slice none 0 0, .bool false]) (by simp only [results, Try.results13]; go_simp) rfl ?_
    exact ans_owns rfl ⟨rfl, Or.inl ⟨rfl, rfl⟩⟩ (by (repeat (first | with_reducible exact Below.refl _ _ | with_reducible assumption | with_reducible refine balloc ?_ _ | with_reducible refine bdrew ?_ | with_reducible refine below_drewN ?_ _ | with_reducible refine bset ?_ ?_ _ | with_reducible exact Nat.le_refl _ | with_reducible refine bsize ?_ | (dsimp only; refine Nat.le_trans ?_ (Nat.le_add_right _ _)) | with_reducible refine Nat.le_trans ?_ (Nat.le_add_right _ _) | (with_reducible refine bstep ?_ (by assumption)))))
  · have hb := cnOk_yes h1
    have hT := cnT_bd l c hb.1 hb.2.2.1
    have HT := Lib.hid (fun W : World => cnTrips_spec l c ⟨hb.1, hb.2.1⟩ ⟨hb.2.2.1, by omega⟩ W)
    cases h2 : inB (cnT l c) 1 1000
    · have e1 : ldB l c = false := by
        cases h : ldB l c
        · rfl
        · simp [ldB, cnTB, h1, inB] at h h2; omega
      rw [ldL_no e1, e1]
      clear e1
      generalize cnT l c = T at *
      go_enter Try.func13, Try.ntmps13
      go_wp2_with (first | (go_at_call 25; refine (load_spec _ _ _).mono ?_; rintro e w1 ⟨rfl, rfl⟩; rw [h1]) | (go_at_call 26; refine (HT.out _).mono ?_; rintro e w1 ⟨rfl, rfl⟩) | (go_at_call 30; refine (in_spec _ _ _ _).mono ?_; rintro e w1 ⟨rfl, rfl⟩; rw [h2]))
      refine bodyPost_ret (v := .tuple #[.slice none 0 0, .bool false]) (by simp only [results, Try.results13]; go_simp) rfl ?_
      exact ans_owns rfl ⟨rfl, Or.inl ⟨rfl, rfl⟩⟩ (by (repeat (first | with_reducible exact Below.refl _ _ | with_reducible assumption | with_reducible refine balloc ?_ _ | with_reducible refine bdrew ?_ | with_reducible refine below_drewN ?_ _ | with_reducible refine bset ?_ ?_ _ | with_reducible exact Nat.le_refl _ | with_reducible refine bsize ?_ | (dsimp only; refine Nat.le_trans ?_ (Nat.le_add_right _ _)) | with_reducible refine Nat.le_trans ?_ (Nat.le_add_right _ _) | (with_reducible refine bstep ?_ (by assumption)))))
    · have hTi : 1 ≤ cnT l c ∧ cnT l c ≤ 1000 := by simpa [inB] using h2
      have e1 : ldB l c = true := by simp [ldB, cnTB, h1]; omega
      obtain ⟨m, hm⟩ := Int.eq_ofNat_of_zero_le (show 0 ≤ cnT l c - 1 by omega)
      have eL : ldL l c = List.replicate m (l - 2) ++ [ldR l c] := by
        unfold ldL; rw [if_pos e1, hm]; rfl
      obtain ⟨cj, hcj⟩ : ∃ cj : Nat → Int, ∀ j, cj j = c - (l - 2) * (j : Int) := ⟨_, fun _ => rfl⟩
      have hc0 : cj 0 = c := by rw [hcj]; simp
      have hcs : Hid (∀ j, cj j - (l - 2) = cj (j + 1)) := Lib.hid (fun j => by rw [hcj, hcj, Int.natCast_add, Int.mul_add]; simp; omega)
      have hcm : Hid (cj m = ldR l c) := Lib.hid (by rw [hcj]; unfold ldR; rw [hm])
      have hcb : Hid (∀ j : Nat, j ≤ 1000 → -18000 ≤ cj j ∧ cj j ≤ 1000000000) := Lib.hid (fun j hj => by
        have := prod_bd (l - 2) (j : Int) (by omega) (by omega) (by omega) (by omega)
        rw [hcj]; omega)
      rw [eL, e1]
      clear eL e1 hcj
      generalize ldR l c = r at *
      generalize cnT l c = T at *
      have hmb : m ≤ 1000 := by omega
      have hlen : (List.replicate m (l - 2) ++ [r]).length = m + 1 := by simp
      have hcl := Lib.hid (show cellsG fInt (List.replicate m (l - 2) ++ [r]) = List.replicate m (.int .i64 (l - 2)) ++ [.int .i64 r] by rw [cells_ints]; simp)
      have hmh := Lib.hid hm
      clear hm
      have hc0h := Lib.hid hc0
      clear hc0
      go_enter Try.func13, Try.ntmps13
      go_wp2_with (first | (go_at_call 25; refine (load_spec _ _ _).mono ?_; rintro e w1 ⟨rfl, rfl⟩; rw [h1]) | (go_at_call 26; refine (HT.out _).mono ?_; rintro e w1 ⟨rfl, rfl⟩) | (go_at_call 30; refine (in_spec _ _ _ _).mono ?_; rintro e w1 ⟨rfl, rfl⟩; rw [h2]))
      go_loopw [1, 6, 7] (fun x v t wr => ∃ j : Nat, j ≤ m ∧ x = .int .i64 (cj j) ∧ t = .int .i64 ((m : Int) - (j : Int) + 1) ∧ wr.ownsRow w.heap.size 3 1 v j (List.replicate j (.int .i64 (l - 2))) ∧ Below w.heap.size w wr) (fun _ _ t _ => (intOf t).toNat)
      case atStart => exact ⟨0, Nat.zero_le _, by rw [hc0h.out], by rw [show T = (m : Int) - ((0 : Nat) : Int) + 1 by have := hmh.out; omega], World.ownsRow_nil _ _ _ _, Below.refl _ _⟩
      case round =>
        obtain ⟨j, hj, rfl, rfl, hown, hbel⟩ := hrel
        have hbj := hcb.out j (by omega)
        have hnx := Lib.hid (hcs.out j)
        have hsz := hbel.size
        by_cases hlt : j < m
        · go_wp2_with (at_builtin; refine wpList_append_own _ rfl _ _ 25 rfl w.heap.size 3 i0 (.int .i64 0) 1 8 Try.underlying25 hi hz0 hz1 hz2 rfl (by decide) _ _ _ rfl (by first | exact hown.alloc _ | exact (hown.alloc _).alloc _) ⟨wr.heap.size, 0, none⟩ 1 1 [.int .i64 (l - 2)] ?c0 rfl ?c1 ?c2 ?c3 ?c4 ?c5 ?_)
          case c0 => simp [Act.eval, Act.put]
          case c1 => first | exact cell_one_new _ _ _ | (intro k u hk; match k, hk with | 0, hk => (simp at hk; subst hk; simp [go_sem]))
          case c2 => simp [Value.oneCell']
          case c3 => unfold maxLen; omega
          case c4 => omega
          case c5 => first | (simp; omega) | omega
          intro v' w4 hown' hgrow _
          have hbel4 : Below w.heap.size w w4 := by
            refine (hbel.alloc hsz _).grown hgrow ?_ (fun g e => own_block hown e)
            simp; omega
          have hown4 : w4.ownsRow w.heap.size 3 1 v' (j + 1) (List.replicate (j + 1) (.int .i64 (l - 2))) := by
            rw [List.replicate_succ']; exact hown'
          clear hown' hgrow
          go_wp2
          go_roundw
          case rel => exact ⟨j + 1, by omega, by rw [hnx.out], by go_num, hown4, hbel4⟩
          case measure => simp [intOf]; omega
        · have e0 : j = m := by omega
          subst e0
          have hcmh := hcm.out
          replace hcmh := Lib.hid hcmh
          clear hcm
          go_wp2_with (at_builtin; refine wpList_append_own _ rfl _ _ 25 rfl w.heap.size 3 i0 (.int .i64 0) 1 8 Try.underlying25 hi hz0 hz1 hz2 rfl (by decide) _ _ _ rfl (by first | exact hown.alloc _ | exact (hown.alloc _).alloc _) ⟨wr.heap.size, 0, none⟩ 1 1 [.int .i64 (cj j)] ?c0 rfl ?c1 ?c2 ?c3 ?c4 ?c5 ?_)
          case c0 => simp [Act.eval, Act.put]
          case c1 => first | exact cell_one_new _ _ _ | (intro k u hk; match k, hk with | 0, hk => (simp at hk; subst hk; simp [go_sem]))
          case c2 => simp [Value.oneCell']
          case c3 => unfold maxLen; omega
          case c4 => omega
          case c5 => first | (simp; omega) | omega
          intro v' w4 hown' hgrow _
          have hbel4 : Below w.heap.size w w4 := by
            refine (hbel.alloc hsz _).grown hgrow ?_ (fun g e => own_block hown e)
            simp; omega
          have hown4 : w4.ownsRow w.heap.size 3 1 v' (List.replicate j (l - 2) ++ [r]).length (cellsG fInt (List.replicate j (l - 2) ++ [r])) := by
            rw [hlen, hcl.out, ← hcmh.out]; exact hown'
          clear hown' hgrow
          go_wp2
          go_ret2
          exact ⟨_, rfl, hown4, hbel4⟩
end Go.Proofs.Ytbhdnocdpincpaa
