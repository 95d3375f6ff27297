/- Rings: the stations from which a vehicle comes around. -/
import Derived.Test.YtcgchgkgmfemeaaRingE
import Derived.Test.YtcgchgkgmfemeaaOInt
import Derived.Deep.RegionHeld3
import Derived.Deep.DeepCutAuto
namespace Go.Proofs.Ytcgchgkgmfemeaa
open Go.ChangeShapes Go.WideShapes Go.ChangeAt Go.RowKit Go.Joins
set_option maxRecDepth 100000
set_option linter.unusedVariables false
set_option linter.unusedSimpArgs false


def stP (l : List StaV) : Nat → List Int
  | 0 => []
  | j + 1 => stP l j ++ (if (ct (trL l j)).k = 0 then [(j : Int)] else [])
def stL (l : List StaV) : List Int := if rgB l = true then stP l l.length else []
theorem stP_len (l : List StaV) (j : Nat) : (stP l j).length ≤ j := by
  induction j with
  | zero => simp [stP]
  | succ j ih =>
    simp only [stP, List.length_append]
    split <;> simp <;> omega
theorem stL_len (l : List StaV) : (stL l).length ≤ 1048576 := by
  unfold stL
  split
  · next h => have := stP_len l l.length; have := rgB_le h; omega
  · simp
theorem stL_no {l : List StaV} (h : rgB l = false) : stL l = [] := by simp [stL, h]
theorem stL_yes {l : List StaV} (h : rgB l = true) : stL l = stP l l.length := by simp [stL, h]
theorem trB_at {l : List StaV} {j : Nat} (h : rgB l = true) (hj : j < l.length) : trB l j = true := by
  unfold trB
  rw [h]
  simp [inB]
  omega
theorem stP_mem (l : List StaV) (j : Nat) : ∀ x ∈ stP l j, 0 ≤ x ∧ x < (j : Int) := by
  induction j with
  | zero => simp [stP]
  | succ j ih =>
    intro x hx
    simp only [stP, List.mem_append] at hx
    rcases hx with hx | hx
    · have := ih x hx; omega
    · split at hx
      · simp at hx; omega
      · simp at hx
set_option maxHeartbeats 3200000 in
theorem starts_impl (v : Value) (l : List StaV) (w : World) (h : RowG 2 fSta w v l) :
    Calls Try.prog 19 #[v] w (AnsG 3 1 fInt (stL l) (rgB l) w) := by
  obtain ⟨i0, hi, hz0, hz1, hz2⟩ := info_parts infoInt
  have HR := Lib.hid (ring_impl v l w h)
  obtain ⟨a0, c0, hv0, hl1, hl2⟩ := row_shape h
  cases hr : rgB l
  · rw [stL_no hr]
    rw [hr] at HR
    subst hv0
    clear h hr
    go_enter Try.func19, Try.ntmps19
    go_wp2_with fail
    refine HR.out.mono ?_
    rintro e w1 ⟨rfl, hb1⟩
    go_wp2
    refine bodyPost_ret (v := .tuple #[.slice none 0 0, .bool false]) (by simp only [results, Try.results19]; go_simp) rfl ?_
    exact ans_owns rfl ⟨rfl, Or.inl ⟨rfl, rfl⟩⟩ (by (repeat (first | with_reducible exact Below.refl _ _ | with_reducible assumption | with_reducible refine balloc ?_ _ | with_reducible refine bdrew ?_ | with_reducible refine below_drewN ?_ _ | with_reducible refine bset ?_ ?_ _ | with_reducible exact Nat.le_refl _ | with_reducible refine bsize ?_ | (dsimp only; refine Nat.le_trans ?_ (Nat.le_add_right _ _)) | with_reducible refine Nat.le_trans ?_ (Nat.le_add_right _ _) | (with_reducible refine bstep ?_ (by assumption)))))
  · have hle := rgB_le hr
    have hlen : l.length ≤ 20 := hle.2
    have HC := Lib.hid (fun (j : Nat) (hj : j < l.length) W (hB : Below w.heap.size w W) => (by
      have hb := trB_at hr hj
      have h2 := circ_impl v l j (by omega) W (rowG_below h hB)
      rw [hb, ciM_yes hb, ciL_yes hb] at h2
      exact h2 : Calls Try.prog 44 #[v, .int .i64 (j : Int)] W fun e w' => e = .returned (.tuple #[.agg #[.int .i64 (ct (trL l j)).m, .int .i64 (ct (trL l j)).k], .bool true]) ∧ Below W.heap.size W w'))
    have HK := Lib.hid (fun j : Nat => ct_k0 (trL l j))
    have HP := Lib.hid (fun j => stP_len l j)
    rw [stL_yes hr]
    rw [hr] at HR
    subst hv0
    clear h hr hle
    have hnx : Hid (∀ j : Nat, stP l (j + 1) = stP l j ++ (if (ct (trL l j)).k = 0 then [(j : Int)] else [])) := Lib.hid (fun j => rfl)
    have h00 : stP l 0 = [] := rfl
    generalize stP l = P at *
    generalize l.length = n at *
    go_enter Try.func19, Try.ntmps19
    go_wp2_with fail
    refine HR.out.mono ?_
    rintro e w1 ⟨rfl, hb1⟩
    go_wp2
    go_loopw [4, 5, 6, 7, 13] (fun v u x y i wr => ∃ j : Nat, j ≤ n ∧ i = .int .i64 j ∧ wr.ownsRow w.heap.size 3 1 v (P j).length (cellsG fInt (P j)) ∧ Below w.heap.size w wr) (fun _ _ _ _ i _ => n - (intOf i).toNat)
    case atStart => exact ⟨0, Nat.zero_le _, rfl, by rw [h00]; exact World.ownsRow_nil _ _ _ _, hb1⟩
    case round =>
      obtain ⟨j, hj, rfl, hown, hbel⟩ := hrel
      by_cases hlt : j < n
      · have hC := HC.out j hlt
        have hK := HK.out j
        have hN := hnx.out j
        have hPl := HP.out j
        generalize hQQ : P (j + 1) = Q at *
        generalize hPP : P j = p at *
        replace hQQ := Lib.hid hQQ
        clear hPP
        have hsz : w.heap.size ≤ wr.heap.size := hbel.size
        generalize ct (trL l j) = c at *
        obtain ⟨ct, cm, ck⟩ := c
        simp only at hC hK hN
        replace hN := Lib.hid hN
        replace hC := Lib.hid hC
        by_cases hc : ck = 0
        · subst hc
          have hQ : Hid (Q = p ++ [(j : Int)]) := Lib.hid (by have := hN.out; simpa using this)
          clear hN hK
          go_wp2_with fail
          refine (hC.out _ hbel).mono ?_
          rintro e w3 ⟨rfl, hb3⟩
          have hown3 := ownsRow_below hown hb3
          have hbel3 := bstep hbel hb3
          have hsz3 := hbel3.size
          clear hown hbel hb3 hC
          go_wp2_with (at_builtin; refine wpList_append_own _ rfl _ _ 32 rfl w.heap.size 3 i0 (.int .i64 0) 1 8 Try.underlying32 hi hz0 hz1 hz2 rfl (by decide) _ _ _ rfl (by first | exact hown3.alloc _ | exact (hown3.alloc _).alloc _) ⟨w3.heap.size + 1, 0, none⟩ 1 1 [.int .i64 (j : Int)] ?c0 rfl ?c1 ?c2 ?c3 ?c4 ?c5 ?_)
          case c0 => simp [Act.eval, Act.put]
          case c1 => first | exact cell_one_new _ _ _ | (intro k u hk; match k, hk with | 0, hk => (simp at hk; subst hk; simp [go_sem]))
          case c2 => simp [Value.oneCell']
          case c3 => unfold maxLen; omega
          case c4 => omega
          case c5 => first | (simp; omega) | omega
          intro v' w4 hown' hgrow _
          have hown4 : w4.ownsRow w.heap.size 3 1 v' Q.length (cellsG fInt Q) := by
            rw [hQ.out, cellsG_snoc, List.length_append]; simpa [fInt] using hown'
          have hbel4 : Below w.heap.size w w4 := by
            refine (show Below w.heap.size w _ by first | exact hbel3.alloc hsz3 _ | (refine (hbel3.alloc hsz3 _).alloc ?_ _; simp; omega)).grown hgrow ?_ (fun g e => own_block hown3 e)
            simp; omega
          clear hown' hgrow hown3 hbel3
          go_wp2
          go_roundw
          case rel => exact ⟨j + 1, by omega, by go_num, by first | exact hown4 | (rw [hQQ.out]; exact hown4), hbel4⟩
          case measure => simp [intOf]; omega
        · have hQ : Hid (Q = p) := Lib.hid (by have := hN.out; simpa [hc] using this)
          clear hN
          have hc2 : 0 < ck := by omega
          go_wp2_with fail
          refine (hC.out _ hbel).mono ?_
          rintro e w3 ⟨rfl, hb3⟩
          have hown3 := ownsRow_below hown hb3
          have hbel3 := bstep hbel hb3
          clear hown hbel hb3 hC
          go_wp2
          go_roundw
          case rel => exact ⟨j + 1, by omega, by go_num, by rw [hQQ.out, hQ.out]; (repeat (first | with_reducible assumption | with_reducible refine own_alloc ?_ _ | with_reducible refine own_drew ?_ | with_reducible refine own_set ?_ ?_ _)), by (repeat (first | with_reducible exact Below.refl _ _ | with_reducible assumption | with_reducible refine balloc ?_ _ | with_reducible refine bdrew ?_ | with_reducible refine below_drewN ?_ _ | with_reducible refine bset ?_ ?_ _ | with_reducible exact Nat.le_refl _ | with_reducible refine bsize ?_ | (dsimp only; refine Nat.le_trans ?_ (Nat.le_add_right _ _)) | with_reducible refine Nat.le_trans ?_ (Nat.le_add_right _ _) | (with_reducible refine bstep ?_ (by assumption))))⟩
          case measure => simp [intOf]; omega
      · have hjn : j = n := by omega
        subst hjn
        have hbel2 := hbel
        go_wp2
        go_ret2
        exact ⟨_, rfl, hown, hbel2⟩
set_option maxHeartbeats 3200000 in
theorem starts_spec (v : Value) (l : List StaV) (w : World) (h : RowG 2 fSta w v l) :
    Calls Try.prog 18 #[v] w (AnsG 3 1 fInt (stL l) (rgB l) w) := by
  obtain ⟨i0, hi, hz0, hz1, hz2⟩ := info_parts infoInt
  have HR := Lib.hid (ring_spec v l w h)
  obtain ⟨a0, c0, hv0, hl1, hl2⟩ := row_shape h
  cases hr : rgB l
  · rw [stL_no hr]
    rw [hr] at HR
    subst hv0
    clear h hr
    go_enter Try.func18, Try.ntmps18
    go_wp2_with fail
    refine HR.out.mono ?_
    rintro e w1 ⟨rfl, hb1⟩
    go_wp2
    refine bodyPost_ret (v := .tuple #[.slice none 0 0, .bool false]) (by simp only [results, Try.results18]; go_simp) rfl ?_
    exact ans_owns rfl ⟨rfl, Or.inl ⟨rfl, rfl⟩⟩ (by (repeat (first | with_reducible exact Below.refl _ _ | with_reducible assumption | with_reducible refine balloc ?_ _ | with_reducible refine bdrew ?_ | with_reducible refine below_drewN ?_ _ | with_reducible refine bset ?_ ?_ _ | with_reducible exact Nat.le_refl _ | with_reducible refine bsize ?_ | (dsimp only; refine Nat.le_trans ?_ (Nat.le_add_right _ _)) | with_reducible refine Nat.le_trans ?_ (Nat.le_add_right _ _) | (with_reducible refine bstep ?_ (by assumption)))))
  · have hle := rgB_le hr
    have hlen : l.length ≤ 20 := hle.2
    have HC := Lib.hid (fun (j : Nat) (hj : j < l.length) W (hB : Below w.heap.size w W) => (extra_spec v l j (trB_at hr hj) W (rowG_below h hB) : Calls Try.prog 43 #[v, .int .i64 (j : Int)] W fun e w' => e = .returned (.tuple #[.int .i64 (ct (trL l j)).k, .int .i64 (ct (trL l j)).m]) ∧ Below W.heap.size W w'))
    have HK := Lib.hid (fun j : Nat => ct_k0 (trL l j))
    have HP := Lib.hid (fun j => stP_len l j)
    rw [stL_yes hr]
    rw [hr] at HR
    subst hv0
    clear h hr hle
    have hnx : Hid (∀ j : Nat, stP l (j + 1) = stP l j ++ (if (ct (trL l j)).k = 0 then [(j : Int)] else [])) := Lib.hid (fun j => rfl)
    have h00 : stP l 0 = [] := rfl
    generalize stP l = P at *
    generalize l.length = n at *
    go_enter Try.func18, Try.ntmps18
    go_wp2_with fail
    refine HR.out.mono ?_
    rintro e w1 ⟨rfl, hb1⟩
    go_wp2
    go_loopw [4, 5, 6, 7, 13] (fun v u x y i wr => ∃ j : Nat, j ≤ n ∧ i = .int .i64 j ∧ wr.ownsRow w.heap.size 3 1 v (P j).length (cellsG fInt (P j)) ∧ Below w.heap.size w wr) (fun _ _ _ _ i _ => n - (intOf i).toNat)
    case atStart => exact ⟨0, Nat.zero_le _, rfl, by rw [h00]; exact World.ownsRow_nil _ _ _ _, hb1⟩
    case round =>
      obtain ⟨j, hj, rfl, hown, hbel⟩ := hrel
      by_cases hlt : j < n
      · have hC := HC.out j hlt
        have hK := HK.out j
        have hN := hnx.out j
        have hPl := HP.out j
        generalize hQQ : P (j + 1) = Q at *
        generalize hPP : P j = p at *
        replace hQQ := Lib.hid hQQ
        clear hPP
        have hsz : w.heap.size ≤ wr.heap.size := hbel.size
        generalize ct (trL l j) = c at *
        obtain ⟨ct, cm, ck⟩ := c
        simp only at hC hK hN
        replace hN := Lib.hid hN
        replace hC := Lib.hid hC
        by_cases hc : ck = 0
        · subst hc
          have hQ : Hid (Q = p ++ [(j : Int)]) := Lib.hid (by have := hN.out; simpa using this)
          clear hN hK
          go_wp2_with fail
          refine (hC.out _ hbel).mono ?_
          rintro e w3 ⟨rfl, hb3⟩
          have hown3 := ownsRow_below hown hb3
          have hbel3 := bstep hbel hb3
          have hsz3 := hbel3.size
          clear hown hbel hb3 hC
          go_wp2_with (at_builtin; refine wpList_append_own _ rfl _ _ 32 rfl w.heap.size 3 i0 (.int .i64 0) 1 8 Try.underlying32 hi hz0 hz1 hz2 rfl (by decide) _ _ _ rfl (by first | exact hown3.alloc _ | exact (hown3.alloc _).alloc _) ⟨w3.heap.size, 0, none⟩ 1 1 [.int .i64 (j : Int)] ?c0 rfl ?c1 ?c2 ?c3 ?c4 ?c5 ?_)
          case c0 => simp [Act.eval, Act.put]
          case c1 => first | exact cell_one_new _ _ _ | (intro k u hk; match k, hk with | 0, hk => (simp at hk; subst hk; simp [go_sem]))
          case c2 => simp [Value.oneCell']
          case c3 => unfold maxLen; omega
          case c4 => omega
          case c5 => first | (simp; omega) | omega
          intro v' w4 hown' hgrow _
          have hown4 : w4.ownsRow w.heap.size 3 1 v' Q.length (cellsG fInt Q) := by
            rw [hQ.out, cellsG_snoc, List.length_append]; simpa [fInt] using hown'
          have hbel4 : Below w.heap.size w w4 := by
            refine (show Below w.heap.size w _ by first | exact hbel3.alloc hsz3 _ | (refine (hbel3.alloc hsz3 _).alloc ?_ _; simp; omega)).grown hgrow ?_ (fun g e => own_block hown3 e)
            simp; omega
          clear hown' hgrow hown3 hbel3
          go_wp2
          go_roundw
          case rel => exact ⟨j + 1, by omega, by go_num, by first | exact hown4 | (rw [hQQ.out]; exact hown4), hbel4⟩
          case measure => simp [intOf]; omega
        · have hQ : Hid (Q = p) := Lib.hid (by have := hN.out; simpa [hc] using this)
          clear hN
          have hc2 : 0 < ck := by omega
          go_wp2_with fail
          refine (hC.out _ hbel).mono ?_
          rintro e w3 ⟨rfl, hb3⟩
          have hown3 := ownsRow_below hown hb3
          have hbel3 := bstep hbel hb3
          clear hown hbel hb3 hC
          go_wp2
          go_roundw
          case rel => exact ⟨j + 1, by omega, by go_num, by rw [hQQ.out, hQ.out]; (repeat (first | with_reducible assumption | with_reducible refine own_alloc ?_ _ | with_reducible refine own_drew ?_ | with_reducible refine own_set ?_ ?_ _)), by (repeat (first | with_reducible exact Below.refl _ _ | with_reducible assumption | with_reducible refine balloc ?_ _ | with_reducible refine bdrew ?_ | with_reducible refine below_drewN ?_ _ | with_reducible refine bset ?_ ?_ _ | with_reducible exact Nat.le_refl _ | with_reducible refine bsize ?_ | (dsimp only; refine Nat.le_trans ?_ (Nat.le_add_right _ _)) | with_reducible refine Nat.le_trans ?_ (Nat.le_add_right _ _) | (with_reducible refine bstep ?_ (by assumption))))⟩
          case measure => simp [intOf]; omega
      · have hjn : j = n := by omega
        subst hjn
        have hbel2 := hbel
        go_wp2
        go_ret2
        exact ⟨_, rfl, hown, hbel2⟩
def fsB (l : List StaV) : Bool := decide (stL l ≠ [])
def fsN (l : List StaV) : Int := (stL l).headD 0
theorem own_head {w : World} {base e : Nat} {v : Value} {x : Int} {xs : List Int} (h : w.ownsRow base e 1 v (x :: xs).length (cellsG fInt (x :: xs))) : ∃ g c, v = .slice (some ⟨g, 0, none⟩) (xs.length + 1) c ∧ w.cell? ⟨g, 0, none⟩ = some (.int .i64 x) := by
  have h' := h
  rcases h.2 with ⟨_, h0⟩ | ⟨g, c, cur, hv, _⟩
  · simp at h0
  · subst hv
    refine ⟨g, c, rfl, ?_⟩
    rw [h'.cellAt 0 (by simp)]
    simp [cellsG, fInt]
set_option maxHeartbeats 1600000 in
theorem firstS_impl (v : Value) (l : List StaV) (w : World) (h : RowG 2 fSta w v l) :
    Calls Try.prog 25 #[v] w fun e w' => e = .returned (.tuple #[.int .i64 (fsN l), .bool (fsB l)]) ∧ Below w.heap.size w w' := by
  have HS := Lib.hid (starts_impl v l w h)
  have hlen := stL_len l
  have hno : rgB l = false → stL l = [] := fun h => stL_no h
  obtain ⟨a0, c0, hv0, hl1, hl2⟩ := row_shape h
  subst hv0
  clear h
  unfold fsB fsN
  generalize stL l = L at *
  generalize rgB l = B at *
  cases L with
  | nil =>
    simp only [ne_eq, not_true_eq_false, decide_false, List.headD_nil]
    clear hno
    cases B
    all_goals
      go_enter Try.func25, Try.ntmps25
      go_wp2_with fail
      refine HS.out.mono ?_
      rintro e w1 ⟨v1, rfl, hown, hb1⟩
      obtain ⟨aq, cq, rfl⟩ := owns_shape hown
      clear hown
      go_wp2
      refine bodyPost_ret (v := .tuple #[.int .i64 0, .bool false]) (by simp only [results, Try.results25]; go_simp) rfl ?_
      exact ⟨rfl, by (repeat (first | with_reducible exact Below.refl _ _ | with_reducible assumption | with_reducible refine balloc ?_ _ | with_reducible refine bdrew ?_ | with_reducible refine below_drewN ?_ _ | with_reducible refine bset ?_ ?_ _ | with_reducible exact Nat.le_refl _ | with_reducible refine bsize ?_ | (dsimp only; refine Nat.le_trans ?_ (Nat.le_add_right _ _)) | with_reducible refine Nat.le_trans ?_ (Nat.le_add_right _ _) | (with_reducible refine bstep ?_ (by assumption))))⟩
  | cons x xs =>
    have hB : B = true := by
      cases B
      · have := hno rfl; simp at this
      · rfl
    subst hB
    simp only [ne_eq, List.cons_ne_nil, not_false_eq_true, decide_true, List.headD_cons]
    clear hno
    have hlen2 : xs.length + 1 ≤ 1048576 := by simpa using hlen
    go_enter Try.func25, Try.ntmps25
    go_wp2_with fail
    refine HS.out.mono ?_
    rintro e w1 ⟨v1, rfl, hown, hb1⟩
    obtain ⟨g, c, rfl, hc⟩ := own_head hown
    have hlc : xs.length + 1 ≤ c ∧ c ≤ 9223372036854775807 := by
      rcases hown.2 with ⟨_, h0⟩ | ⟨g', c', cur, hv, _, _, h1, h2, _⟩
      · simp at h0
      · injection hv with _ _ h3; subst h3; unfold maxLen at h2; simp at h1; omega
    clear hown hlen HS
    generalize xs.length = n at *
    have i1 : ¬ ((n : Int) + 1 = 0) := by omega
    have i2 : (0 : Int) < (n : Int) + 1 := by omega
    go_wp2
    refine bodyPost_ret (v := .tuple #[.int .i64 x, .bool true]) (by simp only [results, Try.results25]; go_simp) rfl ?_
    exact ⟨rfl, by (repeat (first | with_reducible exact Below.refl _ _ | with_reducible assumption | with_reducible refine balloc ?_ _ | with_reducible refine bdrew ?_ | with_reducible refine below_drewN ?_ _ | with_reducible refine bset ?_ ?_ _ | with_reducible exact Nat.le_refl _ | with_reducible refine bsize ?_ | (dsimp only; refine Nat.le_trans ?_ (Nat.le_add_right _ _)) | with_reducible refine Nat.le_trans ?_ (Nat.le_add_right _ _) | (with_reducible refine bstep ?_ (by assumption))))⟩

set_option maxHeartbeats 1600000 in
theorem firstS_spec (v : Value) (l : List StaV) (w : World) (h : RowG 2 fSta w v l) :
    Calls Try.prog 24 #[v] w fun e w' => e = .returned (.tuple #[.int .i64 (fsN l), .bool (fsB l)]) ∧ Below w.heap.size w w' := by
  have HS := Lib.hid (starts_spec v l w h)
  have hlen := stL_len l
  have hno : rgB l = false → stL l = [] := fun h => stL_no h
  obtain ⟨a0, c0, hv0, hl1, hl2⟩ := row_shape h
  subst hv0
  clear h
  unfold fsB fsN
  generalize stL l = L at *
  generalize rgB l = B at *
  cases L with
  | nil =>
    simp only [ne_eq, not_true_eq_false, decide_false, List.headD_nil]
    clear hno
    cases B
    all_goals
      go_enter Try.func24, Try.ntmps24
      go_wp2_with fail
      refine HS.out.mono ?_
      rintro e w1 ⟨v1, rfl, hown, hb1⟩
      obtain ⟨aq, cq, rfl⟩ := owns_shape hown
      clear hown
      go_wp2
      refine bodyPost_ret (v := .tuple #[.int .i64 0, .bool false]) (by simp only [results, Try.results24]; go_simp) rfl ?_
      exact ⟨rfl, by (repeat (first | with_reducible exact Below.refl _ _ | with_reducible assumption | with_reducible refine balloc ?_ _ | with_reducible refine bdrew ?_ | with_reducible refine below_drewN ?_ _ | with_reducible refine bset ?_ ?_ _ | with_reducible exact Nat.le_refl _ | with_reducible refine bsize ?_ | (dsimp only; refine Nat.le_trans ?_ (Nat.le_add_right _ _)) | with_reducible refine Nat.le_trans ?_ (Nat.le_add_right _ _) | (with_reducible refine bstep ?_ (by assumption))))⟩
  | cons x xs =>
    have hB : B = true := by
      cases B
      · have := hno rfl; simp at this
      · rfl
    subst hB
    simp only [ne_eq, List.cons_ne_nil, not_false_eq_true, decide_true, List.headD_cons]
    clear hno
    have hlen2 : xs.length + 1 ≤ 1048576 := by simpa using hlen
    go_enter Try.func24, Try.ntmps24
    go_wp2_with fail
    refine HS.out.mono ?_
    rintro e w1 ⟨v1, rfl, hown, hb1⟩
    obtain ⟨g, c, rfl, hc⟩ := own_head hown
    have hlc : xs.length + 1 ≤ c ∧ c ≤ 9223372036854775807 := by
      rcases hown.2 with ⟨_, h0⟩ | ⟨g', c', cur, hv, _, _, h1, h2, _⟩
      · simp at h0
      · injection hv with _ _ h3; subst h3; unfold maxLen at h2; simp at h1; omega
    clear hown hlen HS
    generalize xs.length = n at *
    have i1 : ¬ ((n : Int) + 1 = 0) := by omega
    have i2 : (0 : Int) < (n : Int) + 1 := by omega
    go_wp2
    refine bodyPost_ret (v := .tuple #[.int .i64 x, .bool true]) (by simp only [results, Try.results24]; go_simp) rfl ?_
    exact ⟨rfl, by (repeat (first | with_reducible exact Below.refl _ _ | with_reducible assumption | with_reducible refine balloc ?_ _ | with_reducible refine bdrew ?_ | with_reducible refine below_drewN ?_ _ | with_reducible refine bset ?_ ?_ _ | with_reducible exact Nat.le_refl _ | with_reducible refine bsize ?_ | (dsimp only; refine Nat.le_trans ?_ (Nat.le_add_right _ _)) | with_reducible refine Nat.le_trans ?_ (Nat.le_add_right _ _) | (with_reducible refine bstep ?_ (by assumption))))⟩

end Go.Proofs.Ytcgchgkgmfemeaa
