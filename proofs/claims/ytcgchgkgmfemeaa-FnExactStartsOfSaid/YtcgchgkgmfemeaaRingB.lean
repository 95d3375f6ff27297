/- Rings turned, of both sides. -/
import Derived.Test.YtcgchgkgmfemeaaApp
import Derived.Test.YtcgchgkgmfemeaaCatS
import Derived.Test.YtcgchgkgmfemeaaAns
import Derived.Deep.RegionHeld3
import Derived.Deep.DeepCutAuto
namespace Go.Proofs.Ytcgchgkgmfemeaa
open Go.ChangeShapes Go.WideShapes Go.ChangeAt Go.RowKit Go.Joins
set_option maxRecDepth 100000
set_option linter.unusedVariables false
set_option linter.unusedSimpArgs false


def trB (l : List StaV) (k : Int) : Bool := rgB l && inB k 0 ((l.length : Int) - 1)
def trL (l : List StaV) (k : Int) : List StaV := if trB l k = true then l.drop k.toNat ++ l.take k.toNat else []
theorem trL_len (l : List StaV) (k : Int) (h : l.length ≤ 1048576) : (trL l k).length ≤ 1048576 := by
  unfold trL
  split
  · rw [List.length_append, List.length_drop, List.length_take]; omega
  · simp
theorem trL_no {l : List StaV} {k : Int} (h : trB l k = false) : trL l k = [] := by simp [trL, h]
theorem trL_yes {l : List StaV} {k : Nat} (h : trB l k = true) : trL l k = l.drop k ++ l.take k := by simp [trL, h]
theorem rgB_le {l : List StaV} (h : rgB l = true) : 0 < l.length ∧ l.length ≤ 20 := by
  unfold rgB lstB at h
  simp at h
  omega
theorem rgB_all {l : List StaV} (h : rgB l = true) {p : StaV} (hp : p ∈ l) : (0 ≤ p.a ∧ p.a ≤ 1000) ∧ (0 ≤ p.b ∧ p.b ≤ 1000) := by
  unfold rgB lstB at h
  simp at h
  have := h.2.2 p hp
  unfold lstP staB inB at this
  simpa using this
theorem rowG_part {w : World} {v : Value} {l : List StaV} (h : RowG 2 fSta w v l) (h0 : 0 < l.length) : ∃ a cap, v = .slice (some a) l.length cap ∧ LiesG 2 fSta w a cap l := by
  rcases h with ⟨rfl, rfl⟩ | ⟨a, cap, rfl, hL⟩
  · simp at h0
  · exact ⟨a, cap, rfl, hL⟩
theorem start_spec (v : Value) (l : List StaV) (k : Int) (w : World) (h : RowG 2 fSta w v l) :
    Calls Try.prog 45 #[v, .int .i64 k] w fun e w' => e = .returned (.bool (trB l k)) ∧ Below w.heap.size w w' := by
  have HR := Lib.hid (ring_spec v l w h)
  obtain ⟨a0, c0, hv0, hl1, hl2⟩ := row_shape h
  unfold trB
  cases hr : rgB l
  · rw [hr] at HR
    subst hv0
    clear h hr
    generalize l.length = m at *
    go_enter Try.func45, Try.ntmps45
    go_wp2_with fail
    refine HR.out.mono ?_
    rintro e w1 ⟨rfl, hb1⟩
    go_wp2
    go_ret
    refine ⟨rfl, ?_⟩
    (repeat (first | with_reducible exact Below.refl _ _ | with_reducible assumption | with_reducible refine balloc ?_ _ | with_reducible refine bdrew ?_ | with_reducible refine below_drewN ?_ _ | with_reducible refine bset ?_ ?_ _ | with_reducible exact Nat.le_refl _ | with_reducible refine bsize ?_ | (dsimp only; refine Nat.le_trans ?_ (Nat.le_add_right _ _)) | with_reducible refine Nat.le_trans ?_ (Nat.le_add_right _ _) | (with_reducible refine bstep ?_ (by assumption))))
  · have hle := rgB_le hr
    rw [hr] at HR
    subst hv0
    clear h hr
    generalize l.length = m at *
    cases hk : inB k 0 ((m : Int) - 1)
    all_goals
      have HK := Lib.hid hk
      clear hk
      go_enter Try.func45, Try.ntmps45
      go_wp2_with fail
      refine HR.out.mono ?_
      rintro e w1 ⟨rfl, hb1⟩
      go_wp2_with (go_at_call 35; refine (in_spec _ _ _ _).mono ?_; rintro e w2 ⟨rfl, rfl⟩; rw [HK.out])
      go_ret
      refine ⟨rfl, ?_⟩
      (repeat (first | with_reducible exact Below.refl _ _ | with_reducible assumption | with_reducible refine balloc ?_ _ | with_reducible refine bdrew ?_ | with_reducible refine below_drewN ?_ _ | with_reducible refine bset ?_ ?_ _ | with_reducible exact Nat.le_refl _ | with_reducible refine bsize ?_ | (dsimp only; refine Nat.le_trans ?_ (Nat.le_add_right _ _)) | with_reducible refine Nat.le_trans ?_ (Nat.le_add_right _ _) | (with_reducible refine bstep ?_ (by assumption))))
set_option maxHeartbeats 3200000 in
theorem turn_impl (v : Value) (l : List StaV) (k : Int) (bk : -9223372036854775808 ≤ k ∧ k ≤ 9223372036854775807) (w : World) (h : RowG 2 fSta w v l) :
    Calls Try.prog 31 #[v, .int .i64 k] w (AnsG 47 2 fSta (trL l k) (trB l k) w) := by
  obtain ⟨a0, c0, hv0, hl1, hl2⟩ := row_shape h
  have HR := Lib.hid (ring_impl v l w h)
  cases hr : rgB l
  · have hb : trB l k = false := by simp [trB, hr]
    rw [trL_no hb, hb]
    rw [hr] at HR
    subst hv0
    clear h hb hr
    go_enter Try.func31, Try.ntmps31
    go_wp2_with fail
    refine HR.out.mono ?_
    rintro e w1 ⟨rfl, hb1⟩
    go_wp2
    refine bodyPost_ret (v := .tuple #[.slice none 0 0, .bool false]) (by simp only [results, Try.results31]; go_simp) rfl ?_
    exact ans_owns rfl ⟨rfl, Or.inl ⟨rfl, rfl⟩⟩ (by (repeat (first | with_reducible exact Below.refl _ _ | with_reducible assumption | with_reducible refine balloc ?_ _ | with_reducible refine bdrew ?_ | with_reducible refine below_drewN ?_ _ | with_reducible refine bset ?_ ?_ _ | with_reducible exact Nat.le_refl _ | with_reducible refine bsize ?_ | (dsimp only; refine Nat.le_trans ?_ (Nat.le_add_right _ _)) | with_reducible refine Nat.le_trans ?_ (Nat.le_add_right _ _) | (with_reducible refine bstep ?_ (by assumption)))))
  · have hle := rgB_le hr
    rw [hr] at HR
    obtain ⟨a, cap, rfl, hL⟩ := rowG_part h hle.1
    clear hv0 h hl1 hl2
    have hlc := hL.hlc
    have hcap := hL.hcap
    cases hk : inB k 0 ((l.length : Int) - 1)
    · have hb : trB l k = false := by simp [trB, hr, hk]
      rw [trL_no hb, hb]
      have HK := Lib.hid hk
      clear hb hr hk hL
      go_enter Try.func31, Try.ntmps31
      go_wp2_with fail
      refine HR.out.mono ?_
      rintro e w1 ⟨rfl, hb1⟩
      go_wp2_with (go_at_call 38; refine (in_impl _ _ _ _).mono ?_; rintro e w2 ⟨rfl, rfl⟩; rw [HK.out])
      refine bodyPost_ret (v := .tuple #[.slice none 0 0, .bool false]) (by simp only [results, Try.results31]; go_simp) rfl ?_
      exact ans_owns rfl ⟨rfl, Or.inl ⟨rfl, rfl⟩⟩ (by (repeat (first | with_reducible exact Below.refl _ _ | with_reducible assumption | with_reducible refine balloc ?_ _ | with_reducible refine bdrew ?_ | with_reducible refine below_drewN ?_ _ | with_reducible refine bset ?_ ?_ _ | with_reducible exact Nat.le_refl _ | with_reducible refine bsize ?_ | (dsimp only; refine Nat.le_trans ?_ (Nat.le_add_right _ _)) | with_reducible refine Nat.le_trans ?_ (Nat.le_add_right _ _) | (with_reducible refine bstep ?_ (by assumption)))))
    · have hb : trB l k = true := by simp [trB, hr, hk]
      obtain ⟨n, rfl⟩ : ∃ n : Nat, k = (n : Int) := ⟨k.toNat, by simp [inB] at hk; omega⟩
      have hkn : n < l.length := by simp [inB] at hk; omega
      rw [trL_yes hb, hb]
      have hlen : (l.drop n).length + (l.take n).length ≤ 1048576 := by rw [List.length_drop, List.length_take]; omega
      have HC := Lib.hid (fun W g (hB : Below w.heap.size w W) q0 q1 => catS_two g (.slice (some (a.add (n * 2))) (l.length - n) (cap - n)) (.slice (some a) n cap) (l.drop n) (l.take n) W q0 q1
        (Or.inr ⟨_, _, by rw [List.length_drop], liesG_drop (liesG_below hL hB) n (by omega)⟩) (Or.inr ⟨_, _, by rw [List.length_take, Nat.min_eq_left (by omega)], liesG_take (liesG_below hL hB) n (by omega)⟩) hlen)
      generalize hLL : l.drop n ++ l.take n = L at *
      have HK := Lib.hid hk
      clear hb hr hk hL hlen hLL
      generalize l.length = m at *
      go_enter Try.func31, Try.ntmps31
      go_wp2_with fail
      refine HR.out.mono ?_
      rintro e w1 ⟨rfl, hb1⟩
      go_upto_region 3 with (go_at_call 38; refine (in_impl _ _ _ _).mono ?_; rintro e w2 ⟨rfl, rfl⟩; rw [HK.out])
      have g1 : n ≤ m := by omega
      have g2 : ¬ cap = n := by omega
      have g3 : n ≤ cap := by omega
      refine wp_region_noPanic ?_
      refine wp_region_held_drew (S := (fun W => Below w.heap.size w W)) (by kernel_rfl) ?_ (fun hHeld0 => ?_)
      · (try dsimp only); (first | with_reducible assumption | ((repeat (first | with_reducible exact Below.refl _ _ | with_reducible assumption | with_reducible refine balloc ?_ _ | with_reducible refine bdrew ?_ | with_reducible refine below_drewN ?_ _ | with_reducible refine bset ?_ ?_ _ | with_reducible exact Nat.le_refl _ | with_reducible refine bsize ?_ | (dsimp only; refine Nat.le_trans ?_ (Nat.le_add_right _ _)) | with_reducible refine Nat.le_trans ?_ (Nat.le_add_right _ _) | (with_reducible refine bstep ?_ (by assumption)))); done))
      (refine wpAnyH_take (i := 0) (oi := { dst := some 17, op := Op.move (Operand.tmp 0), type := 26, pos := "l6_well.go:362", after := #[], guard := none }) (v := ?_) rfl (by kernel_rfl) (by kernel_rfl) (by kernel_rfl) (fun _ _ _ h => h) (Or.inl ⟨by rfl, ?_⟩) (by assumption) ?_; rotate_left; (focus (intro w hSw; (try dsimp only at hSw); go_simp; try with_reducible rfl)); (try simp only [Act.put, List.setIfInBounds_toArray, List.set_cons_zero, List.set_cons_succ]))
      (refine wpAnyH_take (i := 1) (oi := { dst := some 18, op := Op.move (Operand.tmp 1), type := 3, pos := "l6_well.go:362", after := #[], guard := none }) (v := ?_) rfl (by kernel_rfl) (by kernel_rfl) (by kernel_rfl) (fun _ _ _ h => h) (Or.inl ⟨by rfl, ?_⟩) (by assumption) ?_; rotate_left; (focus (intro w hSw; (try dsimp only at hSw); go_simp; try with_reducible rfl)); (try simp only [Act.put, List.setIfInBounds_toArray, List.set_cons_zero, List.set_cons_succ]))
      (refine wpAnyH_take (i := 2) (oi := { dst := some 19, op := Op.slice 26 (Operand.tmp 17) (some (Operand.tmp 18)) none none, type := 26, pos := "l6_well.go:362", after := #[{ on := 0, ground := Ground.data }, { on := 1, ground := Ground.data }], guard := none }) (v := ?_) rfl (by kernel_rfl) (by kernel_rfl) (by kernel_rfl) (fun _ _ _ h => h) (Or.inl ⟨by rfl, ?_⟩) (by assumption) ?_; rotate_left; (focus (intro w hSw; (try dsimp only at hSw); go_simp; try with_reducible rfl)); (try simp only [Act.put, List.setIfInBounds_toArray, List.set_cons_zero, List.set_cons_succ]))
      (refine wpAnyH_take (i := 3) (oi := { dst := some 20, op := Op.move (Operand.tmp 0), type := 26, pos := "l6_well.go:362", after := #[], guard := none }) (v := ?_) rfl (by kernel_rfl) (by kernel_rfl) (by kernel_rfl) (fun _ _ _ h => h) (Or.inl ⟨by rfl, ?_⟩) (by assumption) ?_; rotate_left; (focus (intro w hSw; (try dsimp only at hSw); go_simp; try with_reducible rfl)); (try simp only [Act.put, List.setIfInBounds_toArray, List.set_cons_zero, List.set_cons_succ]))
      (refine wpAnyH_take (i := 4) (oi := { dst := some 21, op := Op.move (Operand.tmp 1), type := 3, pos := "l6_well.go:362", after := #[], guard := none }) (v := ?_) rfl (by kernel_rfl) (by kernel_rfl) (by kernel_rfl) (fun _ _ _ h => h) (Or.inl ⟨by rfl, ?_⟩) (by assumption) ?_; rotate_left; (focus (intro w hSw; (try dsimp only at hSw); go_simp; try with_reducible rfl)); (try simp only [Act.put, List.setIfInBounds_toArray, List.set_cons_zero, List.set_cons_succ]))
      (refine wpAnyH_take (i := 5) (oi := { dst := some 22, op := Op.slice 26 (Operand.tmp 20) none (some (Operand.tmp 21)) none, type := 26, pos := "l6_well.go:362", after := #[{ on := 3, ground := Ground.data }, { on := 4, ground := Ground.data }], guard := none }) (v := ?_) rfl (by kernel_rfl) (by kernel_rfl) (by kernel_rfl) (fun _ _ _ h => h) (Or.inl ⟨by rfl, ?_⟩) (by assumption) ?_; rotate_left; (focus (intro w hSw; (try dsimp only at hSw); go_simp; try with_reducible rfl)); (try simp only [Act.put, List.setIfInBounds_toArray, List.set_cons_zero, List.set_cons_succ]))
      (refine wpAnyH_ready (rs := [6]) (by kernel_rfl) (by simp) ?_; refine AllReadyH.cons (o := { dst := some 23, op := Op.buildSlice 69 2 #[(0, Operand.tmp 19), (1, Operand.tmp 22)], type := 69, pos := "l6_well.go:362", after := #[{ on := 2, ground := Ground.data }, { on := 5, ground := Ground.data }], guard := none }) rfl (fun K hK => ?_) AllReadyH.nil; go_simp; skip; (first | refine hK.out _ _ ?_ (fun hHeld1 => ?_) | (go_wp2_with fail; refine hK.out _ _ ?_ (fun hHeld1 => ?_))); (focus ((try dsimp only); (first | with_reducible assumption | ((repeat (first | with_reducible exact Below.refl _ _ | with_reducible assumption | with_reducible refine balloc ?_ _ | with_reducible refine bdrew ?_ | with_reducible refine below_drewN ?_ _ | with_reducible refine bset ?_ ?_ _ | with_reducible exact Nat.le_refl _ | with_reducible refine bsize ?_ | (dsimp only; refine Nat.le_trans ?_ (Nat.le_add_right _ _)) | with_reducible refine Nat.le_trans ?_ (Nat.le_add_right _ _) | (with_reducible refine bstep ?_ (by assumption)))); done)))); clear hK K; (try clear hHeld0); (try simp only [Act.put, List.setIfInBounds_toArray, List.set_cons_zero, List.set_cons_succ]))
      (refine wpAnyH_ready (rs := [7]) (by kernel_rfl) (by simp) ?_; refine AllReadyH.cons (o := { dst := some 24, op := Op.call { callee := Callee.value (Operand.func 46), args := #[Operand.tmp 23], argTypes := #[69] }, type := 26, pos := "l6_well.go:362", after := #[{ on := 6, ground := Ground.data }], guard := none }) rfl (fun K hK => ?_) AllReadyH.nil; go_simp; (go_at_call 46; refine (HC.out _ w1.heap.size (by first | with_reducible assumption | ((repeat (first | with_reducible exact Below.refl _ _ | with_reducible assumption | with_reducible refine balloc ?_ _ | with_reducible refine bdrew ?_ | with_reducible refine below_drewN ?_ _ | with_reducible refine bset ?_ ?_ _ | with_reducible exact Nat.le_refl _ | with_reducible refine bsize ?_ | (dsimp only; refine Nat.le_trans ?_ (Nat.le_add_right _ _)) | with_reducible refine Nat.le_trans ?_ (Nat.le_add_right _ _) | (with_reducible refine bstep ?_ (by assumption)))); done)) (by simp [go_sem]) (by simp [go_sem])).mono ?_; rintro e w5 ⟨v5, rfl, hown, hb5⟩; (have f5 := bstep (by first | with_reducible assumption | ((repeat (first | with_reducible exact Below.refl _ _ | with_reducible assumption | with_reducible refine balloc ?_ _ | with_reducible refine bdrew ?_ | with_reducible refine below_drewN ?_ _ | with_reducible refine bset ?_ ?_ _ | with_reducible exact Nat.le_refl _ | with_reducible refine bsize ?_ | (dsimp only; refine Nat.le_trans ?_ (Nat.le_add_right _ _)) | with_reducible refine Nat.le_trans ?_ (Nat.le_add_right _ _) | (with_reducible refine bstep ?_ (by assumption)))); done) : Below w.heap.size w _) hb5)); (first | refine hK.out _ _ ?_ (fun hHeld2 => ?_) | (go_wp2_with fail; refine hK.out _ _ ?_ (fun hHeld2 => ?_))); (focus ((try dsimp only); (first | with_reducible assumption | ((repeat (first | with_reducible exact Below.refl _ _ | with_reducible assumption | with_reducible refine balloc ?_ _ | with_reducible refine bdrew ?_ | with_reducible refine below_drewN ?_ _ | with_reducible refine bset ?_ ?_ _ | with_reducible exact Nat.le_refl _ | with_reducible refine bsize ?_ | (dsimp only; refine Nat.le_trans ?_ (Nat.le_add_right _ _)) | with_reducible refine Nat.le_trans ?_ (Nat.le_add_right _ _) | (with_reducible refine bstep ?_ (by assumption)))); done)))); clear hK K; (try clear hHeld1); (try simp only [Act.put, List.setIfInBounds_toArray, List.set_cons_zero, List.set_cons_succ]))
      (refine wpAnyH_take (i := 8) (oi := { dst := some 4, op := Op.assign (Operand.tmp 24), type := 26, pos := "l6_well.go:362", after := #[{ on := 7, ground := Ground.data }, { on := 7, ground := Ground.chain }, { on := 0, ground := Ground.phase }, { on := 1, ground := Ground.phase }, { on := 2, ground := Ground.phase }, { on := 3, ground := Ground.phase }, { on := 4, ground := Ground.phase }, { on := 5, ground := Ground.phase }, { on := 6, ground := Ground.phase }, { on := 7, ground := Ground.phase }], guard := none }) (v := ?_) rfl (by kernel_rfl) (by kernel_rfl) (by kernel_rfl) (fun _ _ _ h => h) (Or.inl ⟨by rfl, ?_⟩) (by assumption) ?_; rotate_left; (focus (intro w hSw; (try dsimp only at hSw); go_simp; try with_reducible rfl)); (try simp only [Act.put, List.setIfInBounds_toArray, List.set_cons_zero, List.set_cons_succ]))
      (refine wpAnyH_take (i := 9) (oi := { dst := some 5, op := Op.assign (Operand.const (Value.bool true)), type := 4, pos := "l6_well.go:362", after := #[{ on := 8, ground := Ground.chain }, { on := 0, ground := Ground.phase }, { on := 1, ground := Ground.phase }, { on := 2, ground := Ground.phase }, { on := 3, ground := Ground.phase }, { on := 4, ground := Ground.phase }, { on := 5, ground := Ground.phase }, { on := 6, ground := Ground.phase }, { on := 7, ground := Ground.phase }, { on := 8, ground := Ground.phase }], guard := none }) (v := ?_) rfl (by kernel_rfl) (by kernel_rfl) (by kernel_rfl) (fun _ _ _ h => h) (Or.inl ⟨by rfl, ?_⟩) (by assumption) ?_; rotate_left; (focus (intro w hSw; (try dsimp only at hSw); go_simp; try with_reducible rfl)); (try simp only [Act.put, List.setIfInBounds_toArray, List.set_cons_zero, List.set_cons_succ]))
      refine wpAnyH_done (by kernel_rfl) ?_ _
      (try refine NoPanic.normal ?_)
      go_wp2
      refine bodyPost_ret (v := .tuple #[v5, .bool true]) (by simp only [results, Try.results31]; go_simp) rfl ?_
      exact ans_owns rfl (own_mono hown (by first | ((repeat (first | with_reducible exact Below.refl _ _ | with_reducible assumption | with_reducible refine balloc ?_ _ | with_reducible refine bdrew ?_ | with_reducible refine below_drewN ?_ _ | with_reducible refine bset ?_ ?_ _ | with_reducible exact Nat.le_refl _ | with_reducible refine bsize ?_ | (dsimp only; refine Nat.le_trans ?_ (Nat.le_add_right _ _)) | with_reducible refine Nat.le_trans ?_ (Nat.le_add_right _ _) | (with_reducible refine bstep ?_ (by assumption)))); done) | (simp; have := hb1.size; omega))) (by (repeat (first | with_reducible exact Below.refl _ _ | with_reducible assumption | with_reducible refine balloc ?_ _ | with_reducible refine bdrew ?_ | with_reducible refine below_drewN ?_ _ | with_reducible refine bset ?_ ?_ _ | with_reducible exact Nat.le_refl _ | with_reducible refine bsize ?_ | (dsimp only; refine Nat.le_trans ?_ (Nat.le_add_right _ _)) | with_reducible refine Nat.le_trans ?_ (Nat.le_add_right _ _) | (with_reducible refine bstep ?_ (by assumption)))))

set_option maxHeartbeats 3200000 in
theorem turn_spec (v : Value) (l : List StaV) (k : Int) (bk : -9223372036854775808 ≤ k ∧ k ≤ 9223372036854775807) (w : World) (h : RowG 2 fSta w v l) :
    Calls Try.prog 30 #[v, .int .i64 k] w (AnsG 47 2 fSta (trL l k) (trB l k) w) := by
  obtain ⟨i0, hi, hz0, hz1, hz2⟩ := info_parts infoStation
  obtain ⟨a0, c0, hv0, hl1, hl2⟩ := row_shape h
  have HR := Lib.hid (start_spec v l k w h)
  cases hb : trB l k
  · rw [trL_no hb]
    rw [hb] at HR
    subst hv0
    clear h hb
    go_enter Try.func30, Try.ntmps30
    go_wp2_with fail
    refine HR.out.mono ?_
    rintro e w1 ⟨rfl, hb1⟩
    go_wp2
    refine bodyPost_ret (v := .tuple #[.slice none 0 0, .bool false]) (by simp only [results, Try.results30]; go_simp) rfl ?_
    exact ans_owns rfl ⟨rfl, Or.inl ⟨rfl, rfl⟩⟩ (by (repeat (first | with_reducible exact Below.refl _ _ | with_reducible assumption | with_reducible refine balloc ?_ _ | with_reducible refine bdrew ?_ | with_reducible refine below_drewN ?_ _ | with_reducible refine bset ?_ ?_ _ | with_reducible exact Nat.le_refl _ | with_reducible refine bsize ?_ | (dsimp only; refine Nat.le_trans ?_ (Nat.le_add_right _ _)) | with_reducible refine Nat.le_trans ?_ (Nat.le_add_right _ _) | (with_reducible refine bstep ?_ (by assumption)))))
  · have hb' := hb
    unfold trB at hb'
    rw [Bool.and_eq_true] at hb'
    have hle := rgB_le hb'.1
    have hk := hb'.2
    clear hb'
    rw [hb] at HR
    obtain ⟨a, cap, rfl, hL⟩ := rowG_part h hle.1
    clear hv0 h hl1 hl2
    have hlc := hL.hlc
    have hcap := hL.hcap
    obtain ⟨n, rfl⟩ : ∃ n : Nat, k = (n : Int) := ⟨k.toNat, by simp [inB] at hk; omega⟩
    have hkn : n < l.length := by simp [inB] at hk; omega
    rw [trL_yes hb]
    have HL := Lib.hid hL
    clear hb hk hL
    generalize hm : l.length = m at *
    have hm2 := Lib.hid hm
    clear hm
    have g1 : n ≤ m := by omega
    have g2 : ¬ cap = n := by omega
    have g3 : n ≤ cap := by omega
    go_enter Try.func30, Try.ntmps30
    go_wp2_with fail
    refine HR.out.mono ?_
    rintro e w1 ⟨rfl, hb1⟩
    go_upto_region 3 with fail
    have hzw1 := hb1.size
    refine wp_region_noPanic ?_
    refine wp_region_held_drew (S := (fun W => Below w.heap.size w W)) (by kernel_rfl) ?_ (fun hHeld0 => ?_)
    · (try dsimp only); (first | with_reducible assumption | ((repeat (first | with_reducible exact Below.refl _ _ | with_reducible assumption | with_reducible refine balloc ?_ _ | with_reducible refine bdrew ?_ | with_reducible refine below_drewN ?_ _ | with_reducible refine bset ?_ ?_ _ | with_reducible exact Nat.le_refl _ | with_reducible refine bsize ?_ | (dsimp only; refine Nat.le_trans ?_ (Nat.le_add_right _ _)) | with_reducible refine Nat.le_trans ?_ (Nat.le_add_right _ _) | (with_reducible refine bstep ?_ (by assumption)))); done))
    (refine wpAnyH_take (i := 1) (oi := { dst := some 11, op := Op.move (Operand.tmp 0), type := 26, pos := "l6_well.go:328", after := #[], guard := none }) (v := ?_) rfl (by kernel_rfl) (by kernel_rfl) (by kernel_rfl) (fun _ _ _ h => h) (Or.inl ⟨by rfl, ?_⟩) (by assumption) ?_; rotate_left; (focus (intro w hSw; (try dsimp only at hSw); go_simp; try with_reducible rfl)); (try simp only [Act.put, List.setIfInBounds_toArray, List.set_cons_zero, List.set_cons_succ]))
    (refine wpAnyH_take (i := 2) (oi := { dst := some 12, op := Op.move (Operand.tmp 1), type := 3, pos := "l6_well.go:328", after := #[], guard := none }) (v := ?_) rfl (by kernel_rfl) (by kernel_rfl) (by kernel_rfl) (fun _ _ _ h => h) (Or.inl ⟨by rfl, ?_⟩) (by assumption) ?_; rotate_left; (focus (intro w hSw; (try dsimp only at hSw); go_simp; try with_reducible rfl)); (try simp only [Act.put, List.setIfInBounds_toArray, List.set_cons_zero, List.set_cons_succ]))
    (refine wpAnyH_take (i := 3) (oi := { dst := some 13, op := Op.slice 26 (Operand.tmp 11) (some (Operand.tmp 12)) none none, type := 26, pos := "l6_well.go:328", after := #[{ on := 1, ground := Ground.data }, { on := 2, ground := Ground.data }], guard := none }) (v := ?_) rfl (by kernel_rfl) (by kernel_rfl) (by kernel_rfl) (fun _ _ _ h => h) (Or.inl ⟨by rfl, ?_⟩) (by assumption) ?_; rotate_left; (focus (intro w hSw; (try dsimp only at hSw); go_simp; try with_reducible rfl)); (try simp only [Act.put, List.setIfInBounds_toArray, List.set_cons_zero, List.set_cons_succ]))
    (refine wpAnyH_take (i := 5) (oi := { dst := some 15, op := Op.move (Operand.tmp 0), type := 26, pos := "l6_well.go:328", after := #[], guard := none }) (v := ?_) rfl (by kernel_rfl) (by kernel_rfl) (by kernel_rfl) (fun _ _ _ h => h) (Or.inl ⟨by rfl, ?_⟩) (by assumption) ?_; rotate_left; (focus (intro w hSw; (try dsimp only at hSw); go_simp; try with_reducible rfl)); (try simp only [Act.put, List.setIfInBounds_toArray, List.set_cons_zero, List.set_cons_succ]))
    (refine wpAnyH_take (i := 6) (oi := { dst := some 16, op := Op.move (Operand.tmp 1), type := 3, pos := "l6_well.go:328", after := #[], guard := none }) (v := ?_) rfl (by kernel_rfl) (by kernel_rfl) (by kernel_rfl) (fun _ _ _ h => h) (Or.inl ⟨by rfl, ?_⟩) (by assumption) ?_; rotate_left; (focus (intro w hSw; (try dsimp only at hSw); go_simp; try with_reducible rfl)); (try simp only [Act.put, List.setIfInBounds_toArray, List.set_cons_zero, List.set_cons_succ]))
    (refine wpAnyH_take (i := 7) (oi := { dst := some 17, op := Op.slice 26 (Operand.tmp 15) none (some (Operand.tmp 16)) none, type := 26, pos := "l6_well.go:328", after := #[{ on := 5, ground := Ground.data }, { on := 6, ground := Ground.data }], guard := none }) (v := ?_) rfl (by kernel_rfl) (by kernel_rfl) (by kernel_rfl) (fun _ _ _ h => h) (Or.inl ⟨by rfl, ?_⟩) (by assumption) ?_; rotate_left; (focus (intro w hSw; (try dsimp only at hSw); go_simp; try with_reducible rfl)); (try simp only [Act.put, List.setIfInBounds_toArray, List.set_cons_zero, List.set_cons_succ]))
    (refine wpAnyH_ready (rs := [0]) (by kernel_rfl) (by simp) ?_; refine AllReadyH.cons (o := { dst := some 10, op := Op.buildSlice 26 0 #[], type := 26, pos := "l6_well.go:328", after := #[], guard := none }) rfl (fun K hK => ?_) AllReadyH.nil; go_simp; skip; (first | refine hK.out _ _ ?_ (fun hHeld1 => ?_) | (go_wp2_with fail; refine hK.out _ _ ?_ (fun hHeld1 => ?_))); (focus ((try dsimp only); (first | with_reducible assumption | ((repeat (first | with_reducible exact Below.refl _ _ | with_reducible assumption | with_reducible refine balloc ?_ _ | with_reducible refine bdrew ?_ | with_reducible refine below_drewN ?_ _ | with_reducible refine bset ?_ ?_ _ | with_reducible exact Nat.le_refl _ | with_reducible refine bsize ?_ | (dsimp only; refine Nat.le_trans ?_ (Nat.le_add_right _ _)) | with_reducible refine Nat.le_trans ?_ (Nat.le_add_right _ _) | (with_reducible refine bstep ?_ (by assumption)))); done)))); clear hK K; (try clear hHeld0); (try simp only [Act.put, List.setIfInBounds_toArray, List.set_cons_zero, List.set_cons_succ]))
    (refine wpAnyH_ready (rs := [4]) (by kernel_rfl) (by simp) ?_; refine AllReadyH.cons (o := { dst := some 14, op := Op.call { callee := Callee.builtin Builtin.append, args := #[Operand.tmp 10, Operand.tmp 13], argTypes := #[26, 26] }, type := 26, pos := "l6_well.go:328", after := #[{ on := 0, ground := Ground.data }, { on := 3, ground := Ground.data }], guard := none }) rfl (fun K hK => ?_) AllReadyH.nil; (refine step_append_own rfl (.tmp 10) (.tmp 13) 26 rfl (w.heap.size) 47 i0 (.agg #[.int .i64 0, .int .i64 0]) 2 16 Try.underlying26 hi hz0 hz1 hz2 rfl (by decide) (.slice (some ⟨w1.heap.size, 0, none⟩) 0 0) 0 [] ?c6 ?own (a.add (n * 2)) (m - n) (cap - n) (cellsG fSta (l.drop n)) ?c7 ?c8 ?c1 (cellsG_one _ _) ?c3 ?c4 ?c5 ?_; (case own => first | exact (own_drew (World.ownsRow_made (size := 2) w1 #[] 0 hzw1 (by unfold maxLen; omega) rfl)) | (repeat (first | with_reducible assumption | with_reducible refine own_alloc ?_ _ | with_reducible refine own_drew ?_ | with_reducible refine own_set ?_ ?_ _))); (case c1 => exact liesG_cells fSta_len (by decide) (liesG_drop (liesG_below HL.out (by (repeat (first | with_reducible exact Below.refl _ _ | with_reducible assumption | with_reducible refine balloc ?_ _ | with_reducible refine bdrew ?_ | with_reducible refine below_drewN ?_ _ | with_reducible refine bset ?_ ?_ _ | with_reducible exact Nat.le_refl _ | with_reducible refine bsize ?_ | (dsimp only; refine Nat.le_trans ?_ (Nat.le_add_right _ _)) | with_reducible refine Nat.le_trans ?_ (Nat.le_add_right _ _) | (with_reducible refine bstep ?_ (by assumption)))))) n (by have := hm2.out; omega))); (case c3 => unfold maxLen; omega); (case c4 => omega); (case c5 => first | ((repeat (first | with_reducible exact Below.refl _ _ | with_reducible assumption | with_reducible refine balloc ?_ _ | with_reducible refine bdrew ?_ | with_reducible refine below_drewN ?_ _ | with_reducible refine bset ?_ ?_ _ | with_reducible exact Nat.le_refl _ | with_reducible refine bsize ?_ | (dsimp only; refine Nat.le_trans ?_ (Nat.le_add_right _ _)) | with_reducible refine Nat.le_trans ?_ (Nat.le_add_right _ _) | (with_reducible refine bstep ?_ (by assumption)))); done) | (simp; omega)); (case c6 => simp [Act.eval, Act.put]); (case c7 => simp [Act.eval, Act.put]); (case c8 => first | (rw [cellsG_len fSta_len, List.length_drop, hm2.out]; done) | (rw [cellsG_len fSta_len, List.length_take, hm2.out, Nat.min_eq_left (by omega)]; done) | (rw [cellsG_len fSta_len]; done) | (rw [cellsG_len fSta_len, List.length_drop]; done) | (rw [cellsG_len fSta_len, List.length_take, Nat.min_eq_left (by omega)]; done)); intro v4 w4 hown4 hgr4; (obtain ⟨aq4, cq4, rfl⟩ := owns_shape hown4); (have f4 : Below w.heap.size w w4 := grown_bel (base := w.heap.size) (by first | with_reducible assumption | ((repeat (first | with_reducible exact Below.refl _ _ | with_reducible assumption | with_reducible refine balloc ?_ _ | with_reducible refine bdrew ?_ | with_reducible refine below_drewN ?_ _ | with_reducible refine bset ?_ ?_ _ | with_reducible exact Nat.le_refl _ | with_reducible refine bsize ?_ | (dsimp only; refine Nat.le_trans ?_ (Nat.le_add_right _ _)) | with_reducible refine Nat.le_trans ?_ (Nat.le_add_right _ _) | (with_reducible refine bstep ?_ (by assumption)))); done)) hgr4 (own_drew (World.ownsRow_made (size := 2) w1 #[] 0 hzw1 (by unfold maxLen; omega) rfl)) (Nat.le_refl _))); (first | refine hK.out _ _ ?_ (fun hHeld2 => ?_) | (go_wp2_with fail; refine hK.out _ _ ?_ (fun hHeld2 => ?_))); (focus ((try dsimp only); (first | with_reducible assumption | ((repeat (first | with_reducible exact Below.refl _ _ | with_reducible assumption | with_reducible refine balloc ?_ _ | with_reducible refine bdrew ?_ | with_reducible refine below_drewN ?_ _ | with_reducible refine bset ?_ ?_ _ | with_reducible exact Nat.le_refl _ | with_reducible refine bsize ?_ | (dsimp only; refine Nat.le_trans ?_ (Nat.le_add_right _ _)) | with_reducible refine Nat.le_trans ?_ (Nat.le_add_right _ _) | (with_reducible refine bstep ?_ (by assumption)))); done)))); clear hK K; (try clear hHeld1); (try simp only [Act.put, List.setIfInBounds_toArray, List.set_cons_zero, List.set_cons_succ]))
    (refine wpAnyH_ready (rs := [8]) (by kernel_rfl) (by simp) ?_; refine AllReadyH.cons (o := { dst := some 18, op := Op.call { callee := Callee.builtin Builtin.append, args := #[Operand.tmp 14, Operand.tmp 17], argTypes := #[26, 26] }, type := 26, pos := "l6_well.go:328", after := #[{ on := 4, ground := Ground.data }, { on := 7, ground := Ground.data }, { on := 4, ground := Ground.chain }], guard := none }) rfl (fun K hK => ?_) AllReadyH.nil; (refine step_append_own rfl (.tmp 14) (.tmp 17) 26 rfl (w.heap.size) 47 i0 (.agg #[.int .i64 0, .int .i64 0]) 2 16 Try.underlying26 hi hz0 hz1 hz2 rfl (by decide) (.slice aq4 (0 + (m - n)) cq4) (0 + (m - n)) ([] ++ cellsG fSta (l.drop n)) ?c6 ?own a n cap (cellsG fSta (l.take n)) ?c7 ?c8 ?c1 (cellsG_one _ _) ?c3 ?c4 ?c5 ?_; (case own => first | (repeat (first | with_reducible assumption | with_reducible refine own_alloc ?_ _ | with_reducible refine own_drew ?_ | with_reducible refine own_set ?_ ?_ _))); (case c1 => exact liesG_cells fSta_len (by decide) (liesG_take (liesG_below HL.out (by (repeat (first | with_reducible exact Below.refl _ _ | with_reducible assumption | with_reducible refine balloc ?_ _ | with_reducible refine bdrew ?_ | with_reducible refine below_drewN ?_ _ | with_reducible refine bset ?_ ?_ _ | with_reducible exact Nat.le_refl _ | with_reducible refine bsize ?_ | (dsimp only; refine Nat.le_trans ?_ (Nat.le_add_right _ _)) | with_reducible refine Nat.le_trans ?_ (Nat.le_add_right _ _) | (with_reducible refine bstep ?_ (by assumption)))))) n (by have := hm2.out; omega))); (case c3 => unfold maxLen; omega); (case c4 => omega); (case c5 => first | ((repeat (first | with_reducible exact Below.refl _ _ | with_reducible assumption | with_reducible refine balloc ?_ _ | with_reducible refine bdrew ?_ | with_reducible refine below_drewN ?_ _ | with_reducible refine bset ?_ ?_ _ | with_reducible exact Nat.le_refl _ | with_reducible refine bsize ?_ | (dsimp only; refine Nat.le_trans ?_ (Nat.le_add_right _ _)) | with_reducible refine Nat.le_trans ?_ (Nat.le_add_right _ _) | (with_reducible refine bstep ?_ (by assumption)))); done) | (simp; omega)); (case c6 => simp [Act.eval, Act.put]); (case c7 => simp [Act.eval, Act.put]); (case c8 => first | (rw [cellsG_len fSta_len, List.length_drop, hm2.out]; done) | (rw [cellsG_len fSta_len, List.length_take, hm2.out, Nat.min_eq_left (by omega)]; done) | (rw [cellsG_len fSta_len]; done) | (rw [cellsG_len fSta_len, List.length_drop]; done) | (rw [cellsG_len fSta_len, List.length_take, Nat.min_eq_left (by omega)]; done)); intro v8 w5 hown8 hgr8; (obtain ⟨aq8, cq8, rfl⟩ := owns_shape hown8); (have f5 : Below w.heap.size w w5 := grown_bel (base := w.heap.size) (by first | with_reducible assumption | ((repeat (first | with_reducible exact Below.refl _ _ | with_reducible assumption | with_reducible refine balloc ?_ _ | with_reducible refine bdrew ?_ | with_reducible refine below_drewN ?_ _ | with_reducible refine bset ?_ ?_ _ | with_reducible exact Nat.le_refl _ | with_reducible refine bsize ?_ | (dsimp only; refine Nat.le_trans ?_ (Nat.le_add_right _ _)) | with_reducible refine Nat.le_trans ?_ (Nat.le_add_right _ _) | (with_reducible refine bstep ?_ (by assumption)))); done)) hgr8 hown4 (Nat.le_refl _))); (first | refine hK.out _ _ ?_ (fun hHeld3 => ?_) | (go_wp2_with fail; refine hK.out _ _ ?_ (fun hHeld3 => ?_))); (focus ((try dsimp only); (first | with_reducible assumption | ((repeat (first | with_reducible exact Below.refl _ _ | with_reducible assumption | with_reducible refine balloc ?_ _ | with_reducible refine bdrew ?_ | with_reducible refine below_drewN ?_ _ | with_reducible refine bset ?_ ?_ _ | with_reducible exact Nat.le_refl _ | with_reducible refine bsize ?_ | (dsimp only; refine Nat.le_trans ?_ (Nat.le_add_right _ _)) | with_reducible refine Nat.le_trans ?_ (Nat.le_add_right _ _) | (with_reducible refine bstep ?_ (by assumption)))); done)))); clear hK K; (try clear hHeld2); (try simp only [Act.put, List.setIfInBounds_toArray, List.set_cons_zero, List.set_cons_succ]))
    (refine wpAnyH_take (i := 9) (oi := { dst := some 4, op := Op.assign (Operand.tmp 18), type := 26, pos := "l6_well.go:328", after := #[{ on := 8, ground := Ground.data }, { on := 8, ground := Ground.chain }, { on := 0, ground := Ground.phase }, { on := 1, ground := Ground.phase }, { on := 2, ground := Ground.phase }, { on := 3, ground := Ground.phase }, { on := 4, ground := Ground.phase }, { on := 5, ground := Ground.phase }, { on := 6, ground := Ground.phase }, { on := 7, ground := Ground.phase }, { on := 8, ground := Ground.phase }], guard := none }) (v := ?_) rfl (by kernel_rfl) (by kernel_rfl) (by kernel_rfl) (fun _ _ _ h => h) (Or.inl ⟨by rfl, ?_⟩) (by assumption) ?_; rotate_left; (focus (intro w hSw; (try dsimp only at hSw); go_simp; try with_reducible rfl)); (try simp only [Act.put, List.setIfInBounds_toArray, List.set_cons_zero, List.set_cons_succ]))
    (refine wpAnyH_take (i := 10) (oi := { dst := some 5, op := Op.assign (Operand.const (Value.bool true)), type := 4, pos := "l6_well.go:328", after := #[{ on := 9, ground := Ground.chain }, { on := 0, ground := Ground.phase }, { on := 1, ground := Ground.phase }, { on := 2, ground := Ground.phase }, { on := 3, ground := Ground.phase }, { on := 4, ground := Ground.phase }, { on := 5, ground := Ground.phase }, { on := 6, ground := Ground.phase }, { on := 7, ground := Ground.phase }, { on := 8, ground := Ground.phase }, { on := 9, ground := Ground.phase }], guard := none }) (v := ?_) rfl (by kernel_rfl) (by kernel_rfl) (by kernel_rfl) (fun _ _ _ h => h) (Or.inl ⟨by rfl, ?_⟩) (by assumption) ?_; rotate_left; (focus (intro w hSw; (try dsimp only at hSw); go_simp; try with_reducible rfl)); (try simp only [Act.put, List.setIfInBounds_toArray, List.set_cons_zero, List.set_cons_succ]))
    refine wpAnyH_done (by kernel_rfl) ?_ _
    (try refine NoPanic.normal ?_)
    go_wp2
    refine bodyPost_ret (v := .tuple #[.slice aq8 (0 + (m - n) + n) cq8, .bool true]) (by simp only [results, Try.results30]; go_simp) rfl ?_
    exact ans_owns (n := m - n + n) (by rw [List.length_append, List.length_drop, List.length_take, hm2.out]; omega) (by simpa [cellsG_append] using hown8) f5

end Go.Proofs.Ytcgchgkgmfemeaa
