/- Puzzles: sure wells and sure dry miles, of the model. -/
import Derived.Test.YtiafmojmanhdoaaSoQPk
import Derived.Test.YtiafmojmanhdoaaPkS9d
namespace Go.Proofs.Ytiafmojmanhdoaa
open Go.ChangeShapes Go.WideShapes Go.ChangeAt Go.RowKit Go.Joins
set_option maxRecDepth 100000
set_option linter.unusedVariables false
set_option linter.unusedSimpArgs false

/-- Is a mile a well of all lists, or of none? -/
def sureAt (L : List (List Int)) (wet : Bool) (x : Int) : Bool := L.all (fun ws => hasB ws x == wet)
def suP (L : List (List Int)) (wet : Bool) (k : Nat) : List Int := ((List.range k).map (fun (j : Nat) => (j : Int) + 1)).filter (sureAt L wet)
theorem suP_succ (L : List (List Int)) (wet : Bool) (k : Nat) : suP L wet (k + 1) = suP L wet k ++ (if sureAt L wet ((k : Int) + 1) = true then [(k : Int) + 1] else []) := by
  simp only [suP, List.range_succ, List.map_append, List.filter_append, List.map_cons, List.map_nil]
  congr 1
  by_cases h : sureAt L wet ((k : Int) + 1) = true
  · rw [if_pos h]; simp [h]
  · rw [if_neg h]; simp [h]
theorem suP_len (L : List (List Int)) (wet : Bool) (k : Nat) : (suP L wet k).length ≤ k := by
  rw [suP]
  exact Nat.le_trans (List.length_filter_le ..) (by simp)
def suL (m : Int) (cs : List ClueV) (wet : Bool) : List Int := if (soL m cs).isEmpty = true then [] else suP (soL m cs) wet (m - 1).toNat
theorem su_len (m : Int) (cs : List ClueV) (wet : Bool) : (suL m cs wet).length ≤ 1048576 := by
  unfold suL
  split
  · simp
  · next h =>
    refine Nat.le_trans (suP_len _ _ _) ?_
    have hp : pzB m cs = true := by
      cases hp : pzB m cs
      · simp [soL, hp] at h
      · rfl
    have := miB_yes (pzB_yes hp).1
    omega
theorem sureAt_take {L : List (List Int)} {wet : Bool} {x : Int} {j : Nat} {ws : List Int} (h : L[j]? = some ws) : sureAt (L.take (j + 1)) wet x = (sureAt (L.take j) wet x && (hasB ws x == wet)) := by
  rw [List.take_add_one, h]
  simp [sureAt]
set_option maxHeartbeats 6400000 in
theorem sure_spec (wet : Bool) (m : Int) (bm : -9223372036854775808 ≤ m ∧ m ≤ 9223372036854775807) (v : Value) (cs : List ClueV) (w : World) (h : RowG 3 fClue w v cs) :
    Calls Try.prog 63 #[.agg #[.int .i64 m, v], .bool wet] w (AnsG 3 1 fInt (suL m cs wet) (!(soL m cs).isEmpty) w) := by
  obtain ⟨j0, hj0, hy0, hy1, hy2⟩ := info_parts infoInt
  have HG := Lib.hid (fun W (hB : Below w.heap.size w W) => good9_spec m bm v cs W (rowG_below h hB))
  have HA := Lib.hid (fun (hp : pzB m cs = true) W (hB : Below w.heap.size w W) => all_spec9 m (miB_yes (pzB_yes hp).1).1 (miB_yes (pzB_yes hp).1).2 v cs (pzB_yes hp).2.2 W (rowG_below h hB))
  obtain ⟨a0, c0, rfl, hl1, hl2⟩ := row_shape h
  clear h
  cases hp : pzB m cs
  · have e1 : soL m cs = [] := by simp [soL, hp]
    have e2 : suL m cs wet = [] := by simp [suL, e1]
    rw [hp] at HG
    rw [e1, e2]
    clear e1 e2 hp HA
    go_enter Try.func63, Try.ntmps63
    go_wp2_with fail
    refine (HG.out _ (by (repeat (first | with_reducible exact Below.refl _ _ | with_reducible assumption | with_reducible refine balloc ?_ _ | with_reducible refine bdrew ?_ | with_reducible refine below_drewN ?_ _ | with_reducible refine bset ?_ ?_ _ | with_reducible exact Nat.le_refl _ | with_reducible refine bsize ?_ | (dsimp only; refine Nat.le_trans ?_ (Nat.le_add_right _ _)) | with_reducible refine Nat.le_trans ?_ (Nat.le_add_right _ _) | (with_reducible refine bstep ?_ (by assumption)))))).mono ?_
    rintro e w1 ⟨rfl, hb1⟩
    go_wp2
    refine bodyPost_ret (v := .tuple #[.slice none 0 0, .bool false]) (by simp only [results, Try.results63]; go_simp) rfl ?_
    exact ⟨_, rfl, World.ownsRow_nil _ _ _ _, by (repeat (first | with_reducible exact Below.refl _ _ | with_reducible assumption | with_reducible refine balloc ?_ _ | with_reducible refine bdrew ?_ | with_reducible refine below_drewN ?_ _ | with_reducible refine bset ?_ ?_ _ | with_reducible exact Nat.le_refl _ | with_reducible refine bsize ?_ | (dsimp only; refine Nat.le_trans ?_ (Nat.le_add_right _ _)) | with_reducible refine Nat.le_trans ?_ (Nat.le_add_right _ _) | (with_reducible refine bstep ?_ (by assumption))))⟩
  · have e1 : soL m cs = solL m cs := by simp [soL, hp]
    have HA2 := Lib.hid (HA.out hp)
    have hm := miB_yes (pzB_yes hp).1
    have HSZ := Lib.hid (fun (Z : ZL) (hz : Z.map Prod.snd = solL m cs) => soZ_len (m := m) (l := cs) (Z := Z) (by rw [hz, e1]))
    have HRI := Lib.hid (fun (ws : List Int) (hw : ws ∈ solL m cs) => (show ∀ x ∈ ws, -9223372036854775808 ≤ x ∧ x ≤ 9223372036854775807 from fun x hx => by have := ris_bd (solL_ris hm.1 hw) x hx; omega))
    have e3 : suL m cs wet = if (solL m cs).isEmpty = true then [] else suP (solL m cs) wet (m - 1).toNat := by rw [suL, e1]
    rw [hp] at HG
    rw [e1, e3]
    clear e1 e3 hp HA
    generalize solL m cs = L at *
    obtain ⟨K, hK⟩ : ∃ K : Nat, (m - 1).toNat = K := ⟨_, rfl⟩
    have hKm1 : (K : Int) ≤ m - 1 := by omega
    have hKm2 : m - 1 ≤ (K : Int) := by omega
    rw [hK]
    clear hK
    obtain ⟨R, hR⟩ : ∃ R, Hid ((if L.isEmpty = true then [] else suP L wet K) = R) := ⟨_, Lib.hid rfl⟩
    rw [hR.out]
    go_enter Try.func63, Try.ntmps63
    go_wp2_with fail
    refine (HG.out _ (by (repeat (first | with_reducible exact Below.refl _ _ | with_reducible assumption | with_reducible refine balloc ?_ _ | with_reducible refine bdrew ?_ | with_reducible refine below_drewN ?_ _ | with_reducible refine bset ?_ ?_ _ | with_reducible exact Nat.le_refl _ | with_reducible refine bsize ?_ | (dsimp only; refine Nat.le_trans ?_ (Nat.le_add_right _ _)) | with_reducible refine Nat.le_trans ?_ (Nat.le_add_right _ _) | (with_reducible refine bstep ?_ (by assumption)))))).mono ?_
    rintro e w1 ⟨rfl, hb1⟩
    have hbx1 : Blk w.heap.size #[.int .i64 m, .slice a0 cs.length c0] 41 w1 := (Blk.new w _ _).later hb1
    have q0 := hbx1.cell 0
    have q1 := hbx1.cell 1
    simp at q0 q1
    have hbw1 : Below w.heap.size w w1 := by (repeat (first | with_reducible exact Below.refl _ _ | with_reducible assumption | with_reducible refine balloc ?_ _ | with_reducible refine bdrew ?_ | with_reducible refine below_drewN ?_ _ | with_reducible refine bset ?_ ?_ _ | with_reducible exact Nat.le_refl _ | with_reducible refine bsize ?_ | (dsimp only; refine Nat.le_trans ?_ (Nat.le_add_right _ _)) | with_reducible refine Nat.le_trans ?_ (Nat.le_add_right _ _) | (with_reducible refine bstep ?_ (by assumption))))
    clear hb1
    go_wp2_with fail
    refine Calls.mono (HA2.out _ hbw1) ?_
    rintro e w2 ⟨v2, Z2, rfl, hr2, hm2, hb2⟩
    obtain ⟨va, vc, hv⟩ := owns_shape hr2.out
    obtain ⟨n2, hn2⟩ : ∃ n, Z2.length = n := ⟨_, rfl⟩
    have HN := Lib.hid hn2
    rw [hn2] at hv
    subst hv
    have hbw2 : Below w.heap.size w w2 := hbw1.trans (hb2.mono hbw1.size)
    have hbx2 := hbx1.later hb2
    have hlen := Lib.hid (show L.length = n2 by rw [← hm2.out, List.length_map, hn2])
    have hn2b : n2 ≤ 100000 := by have := (HSZ.out Z2 hm2.out).1; omega
    clear hn2 hb2 hbx1 hbw1 q0 q1
    by_cases h0 : n2 = 0
    · have hE := Lib.hid (show L = [] from List.eq_nil_of_length_eq_zero (by rw [hlen.out, h0]))
      have h00 : (n2 : Int) = 0 := by omega
      subst h0
      go_wp2
      refine bodyPost_ret (v := .tuple #[.slice none 0 0, .bool false]) (by simp only [results, Try.results63]; go_simp) rfl ?_
      have hR0 : R = [] := by rw [← hR.out, hE.out]; rfl
      exact ⟨_, by rw [hE.out]; rfl, by rw [hR0]; exact World.ownsRow_nil _ _ _ _, hbw2⟩
    · have hne0 : ((n2 : Int) == 0) = false := beq_eq_false_iff_ne.2 (by omega)
      have hni : ¬ (n2 : Int) = 0 := by omega
      have hE := Lib.hid (show L.isEmpty = false by
        cases L with
        | nil => have := hlen.out; simp at this; omega
        | cons a t => rfl)
      go_wp2
      go_loopw [7, 8] (fun s x wr => ∃ (k nk : Nat) (s6 : Value), k ≤ K ∧ nk ≤ k ∧ x = .int .i64 ((k : Int) + 1) ∧ s6 = s ∧ Hid ((suP L wet k).length = nk) ∧ wr.ownsRow w2.heap.size 3 1 s6 nk (cellsG fInt (suP L wet k)) ∧ Below w2.heap.size w2 wr) (fun _ x _ => (m - intOf x).toNat)
      case atStart => exact ⟨0, 0, _, Nat.zero_le _, Nat.zero_le _, by simp, rfl, Lib.hid (by simp [suP]), World.ownsRow_nil _ _ _ _, Below.refl _ _⟩
      case round =>
        obtain ⟨k, nk, s6, hk, hnk, rfl, rfl, hlk, hown6, hbel⟩ := hrel
        obtain ⟨s6a, s6c, rfl⟩ := owns_shape hown6
        have hbx6 := hbx2.later hbel
        have q0 := hbx6.cell 0
        simp at q0
        by_cases hlt : k < K
        · have hkm : (k : Int) + 1 < m := by omega
          have hsu := Lib.hid (suP_succ L wet k)
          go_wp2
          go_loopw [9, 31] (fun s i wi => ∃ j : Nat, j ≤ n2 ∧ i = .int .i64 j ∧ s = .bool (sureAt (L.take j) wet ((k : Int) + 1)) ∧ wr = wi) (fun _ i _ => n2 - (intOf i).toNat)
          case atStart => exact ⟨0, Nat.zero_le _, rfl, by simp [sureAt], rfl⟩
          case round =>
            obtain ⟨j, hj, rfl, rfl, rfl⟩ := hrel
            by_cases hlj : j < n2
            · obtain ⟨q, hq⟩ : ∃ q, Z2[j]? = some q := ⟨_, List.getElem?_eq_getElem (by rw [HN.out]; exact hlj)⟩
              have hr6 := hr2.below hbel
              have ho6 := hr6.out
              rw [HN.out] at ho6
              obtain ⟨d1, rfl, e1⟩ := cellZ ho6 hq
              have hqm := List.mem_of_getElem? hq
              have hLj : L[j]? = some q.2 := by rw [← hm2.out, List.getElem?_map, hq]; rfl
              have hst := Lib.hid (sureAt_take (wet := wet) (x := (k : Int) + 1) hLj)
              have HH := Lib.hid (has_spec ((k : Int) + 1) q.1 q.2 wr (hr6.inn.read hqm (HRI.out q.2 (List.mem_of_getElem? hLj))))
              obtain ⟨qa, qc, hqs⟩ := owns_shape (hr6.inn.row q hqm)
              obtain ⟨nq, hnq⟩ : ∃ n, q.2.length = n := ⟨_, rfl⟩
              rw [hqs, hnq] at e1
              rw [hqs, hnq] at HH
              clear hqs hnq hq hqm hLj hr6 ho6
              cases hB : sureAt (L.take j) wet ((k : Int) + 1)
              · go_wp2
                go_roundw
                case rel => exact ⟨j + 1, by omega, by go_num, by rw [hst.out, hB]; rfl, trivial⟩
                case measure => simp [intOf]; omega
              · generalize hasB q.2 ((k : Int) + 1) = H at *
                go_wp2_with fail
                refine HH.out.mono ?_
                rintro e w9 ⟨rfl, rfl⟩
                cases H <;> cases wet
                all_goals
                  go_wp2
                  go_roundw
                  case rel => exact ⟨j + 1, by omega, by go_num, by rw [hst.out, hB]; rfl, trivial⟩
                  case measure => simp [intOf]; omega
            · have ej : L.take j = L := List.take_of_length_le (by rw [hlen.out]; omega)
              rw [ej]
              clear ej
              have hz6 := hbel.size
              cases hB : sureAt L wet ((k : Int) + 1)
              · have hnx := Lib.hid (show suP L wet (k + 1) = suP L wet k by rw [hsu.out, hB]; simp)
                clear hB
                go_wp2
                go_roundw
                case rel => exact ⟨k + 1, nk, _, by omega, by omega, by go_num, rfl, by rw [hnx.out]; exact hlk, by rw [hnx.out]; exact hown6, hbel⟩
                case measure => simp [intOf]; omega
              · have hnx := Lib.hid (show suP L wet (k + 1) = suP L wet k ++ [(k : Int) + 1] by rw [hsu.out, hB]; simp)
                clear hB
                go_wp2_with (at_builtin; refine wpList_append_own _ rfl _ _ 24 rfl w2.heap.size 3 j0 (.int .i64 0) 1 8 Try.underlying24 hj0 hy0 hy1 hy2 rfl (by decide) (.slice s6a nk s6c) nk (cellsG fInt (suP L wet k)) rfl (hown6.alloc _) ⟨wr.heap.size, 0, none⟩ 1 1 [.int .i64 ((k : Int) + 1)] ?c0 rfl ?c1 ?c2 ?c3 ?c4 ?c5 ?_)
                case c0 => simp [Act.eval, Act.put]
                case c1 => first | exact cell_one_new _ _ _ | (intro k u hk; match k, hk with | 0, hk => (simp at hk; subst hk; simp [go_sem]))
                case c2 => simp [Value.oneCell']
                case c3 => unfold maxLen; omega
                case c4 => omega
                case c5 => simp; omega
                intro s7 w7 hown7 hgr7 _
                have hbA : Below wr.heap.size wr (wr.alloc (.cells #[.int .i64 ((k : Int) + 1)] 3)) := balloc (Below.refl _ _) _
                have hoA := ownsRow_below hown6 hbA
                have hbel7 : Below w2.heap.size w2 w7 := grown_bel (bstep hbel hbA) hgr7 hoA (Nat.le_refl _)
                have hown7' : w7.ownsRow w2.heap.size 3 1 s7 (nk + 1) (cellsG fInt (suP L wet (k + 1))) := by rw [hnx.out, cellsG_append]; exact hown7
                obtain ⟨s7a, s7c, rfl⟩ := owns_shape hown7'
                clear hbA hoA hown7 hgr7 hown6
                go_wp2
                go_roundw
                case rel => exact ⟨k + 1, nk + 1, _, by omega, by omega, by go_num, rfl, Lib.hid (by rw [hnx.out, List.length_append, hlk.out]; rfl), hown7', hbel7⟩
                case measure => simp [intOf]; omega
        · have hkn : k = K := by omega
          subst hkn
          have hkm : ¬ (k : Int) + 1 < m := by omega
          have hown7 : wr.ownsRow w.heap.size 3 1 (.slice s6a nk s6c) (suP L wet k).length (cellsG fInt (suP L wet k)) := by rw [hlk.out]; exact own_mono hown6 hbw2.size
          go_wp2
          refine bodyPost_ret (v := .tuple #[.slice s6a nk s6c, .bool true]) (by simp only [results, Try.results63]; go_simp) rfl ?_
          have hR1 : R = suP L wet k := by rw [← hR.out, hE.out]; rfl
          exact ⟨_, by rw [hE.out]; rfl, by rw [hR1]; exact hown7, hbw2.trans (hbel.mono hbw2.size)⟩
theorem sureW_spec (m : Int) (bm : -9223372036854775808 ≤ m ∧ m ≤ 9223372036854775807) (v : Value) (cs : List ClueV) (w : World) (h : RowG 3 fClue w v cs) :
    Calls Try.prog 34 #[.agg #[.int .i64 m, v]] w (AnsG 3 1 fInt (suL m cs true) (!(soL m cs).isEmpty) w) := by
  have HC := Lib.hid (fun W (hB : Below w.heap.size w W) => sure_spec true m bm v cs W (rowG_below h hB))
  obtain ⟨a0, c0, rfl, hl1, hl2⟩ := row_shape h
  clear h
  generalize suL m cs true = L at *
  generalize (!(soL m cs).isEmpty) = B at *
  go_enter Try.func34, Try.ntmps34
  go_wp2_with fail
  refine Calls.mono (HC.out _ (by (repeat (first | with_reducible exact Below.refl _ _ | with_reducible assumption | with_reducible refine balloc ?_ _ | with_reducible refine bdrew ?_ | with_reducible refine below_drewN ?_ _ | with_reducible refine bset ?_ ?_ _ | with_reducible exact Nat.le_refl _ | with_reducible refine bsize ?_ | (dsimp only; refine Nat.le_trans ?_ (Nat.le_add_right _ _)) | with_reducible refine Nat.le_trans ?_ (Nat.le_add_right _ _) | (with_reducible refine bstep ?_ (by assumption)))))) ?_
  rintro e w1 ⟨v1, rfl, hown1, hb1⟩
  obtain ⟨a1, c1, rfl⟩ := owns_shape hown1
  go_wp2
  refine bodyPost_ret (v := .tuple #[.slice a1 L.length c1, .bool B]) (by simp only [results, Try.results34]; go_simp) rfl ?_
  exact ⟨_, rfl, own_mono hown1 (by simp), by (repeat (first | with_reducible exact Below.refl _ _ | with_reducible assumption | with_reducible refine balloc ?_ _ | with_reducible refine bdrew ?_ | with_reducible refine below_drewN ?_ _ | with_reducible refine bset ?_ ?_ _ | with_reducible exact Nat.le_refl _ | with_reducible refine bsize ?_ | (dsimp only; refine Nat.le_trans ?_ (Nat.le_add_right _ _)) | with_reducible refine Nat.le_trans ?_ (Nat.le_add_right _ _) | (with_reducible refine bstep ?_ (by assumption))))⟩
theorem sureD_spec (m : Int) (bm : -9223372036854775808 ≤ m ∧ m ≤ 9223372036854775807) (v : Value) (cs : List ClueV) (w : World) (h : RowG 3 fClue w v cs) :
    Calls Try.prog 36 #[.agg #[.int .i64 m, v]] w (AnsG 3 1 fInt (suL m cs false) (!(soL m cs).isEmpty) w) := by
  have HC := Lib.hid (fun W (hB : Below w.heap.size w W) => sure_spec false m bm v cs W (rowG_below h hB))
  obtain ⟨a0, c0, rfl, hl1, hl2⟩ := row_shape h
  clear h
  generalize suL m cs false = L at *
  generalize (!(soL m cs).isEmpty) = B at *
  go_enter Try.func36, Try.ntmps36
  go_wp2_with fail
  refine Calls.mono (HC.out _ (by (repeat (first | with_reducible exact Below.refl _ _ | with_reducible assumption | with_reducible refine balloc ?_ _ | with_reducible refine bdrew ?_ | with_reducible refine below_drewN ?_ _ | with_reducible refine bset ?_ ?_ _ | with_reducible exact Nat.le_refl _ | with_reducible refine bsize ?_ | (dsimp only; refine Nat.le_trans ?_ (Nat.le_add_right _ _)) | with_reducible refine Nat.le_trans ?_ (Nat.le_add_right _ _) | (with_reducible refine bstep ?_ (by assumption)))))) ?_
  rintro e w1 ⟨v1, rfl, hown1, hb1⟩
  obtain ⟨a1, c1, rfl⟩ := owns_shape hown1
  go_wp2
  refine bodyPost_ret (v := .tuple #[.slice a1 L.length c1, .bool B]) (by simp only [results, Try.results36]; go_simp) rfl ?_
  exact ⟨_, rfl, own_mono hown1 (by simp), by (repeat (first | with_reducible exact Below.refl _ _ | with_reducible assumption | with_reducible refine balloc ?_ _ | with_reducible refine bdrew ?_ | with_reducible refine below_drewN ?_ _ | with_reducible refine bset ?_ ?_ _ | with_reducible exact Nat.le_refl _ | with_reducible refine bsize ?_ | (dsimp only; refine Nat.le_trans ?_ (Nat.le_add_right _ _)) | with_reducible refine Nat.le_trans ?_ (Nat.le_add_right _ _) | (with_reducible refine bstep ?_ (by assumption))))⟩
end Go.Proofs.Ytiafmojmanhdoaa
