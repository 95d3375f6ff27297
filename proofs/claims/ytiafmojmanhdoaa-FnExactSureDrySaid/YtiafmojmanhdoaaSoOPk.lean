/- Puzzles: sure wells and sure dry miles, of the program. -/
import Derived.Test.YtiafmojmanhdoaaSoNPk
import Derived.Test.YtiafmojmanhdoaaPkS9d
namespace Go.Proofs.Ytiafmojmanhdoaa
open Go.ChangeShapes Go.WideShapes Go.ChangeAt Go.RowKit Go.Joins
set_option maxRecDepth 100000
set_option linter.unusedVariables false
set_option linter.unusedSimpArgs false

theorem soL_len9 (m : Int) (cs : List ClueV) : (soL m cs).length ≤ 512 := by
  unfold soL
  split
  · next hp => exact solL_len (miB_yes (pzB_yes hp).1).2 cs
  · simp
theorem soL_all {m : Int} {cs : List ClueV} {ws : List Int} (h : ws ∈ soL m cs) : risB m 0 ws = true ∧ 1 ≤ m ∧ m ≤ 10 := by
  unfold soL at h
  split at h
  · next hp => exact ⟨solL_ris (miB_yes (pzB_yes hp).1).1 h, (miB_yes (pzB_yes hp).1)⟩
  · simp at h
theorem cloW (n : Nat) (w : World) : Calls Try.prog 65 #[.int .i64 n] w fun e w' => e = .returned (.int .i64 n) ∧ w = w' := by
  go_enter Try.func65, Try.ntmps65
  go_wp2
  go_ret
  exact ⟨rfl, rfl⟩
set_option maxHeartbeats 6400000 in
theorem sureW1_impl (m : Int) (bm : -9223372036854775808 ≤ m ∧ m ≤ 9223372036854775807) (v : Value) (cs : List ClueV) (w : World) (h : RowG 3 fClue w v cs) :
    Calls Try.prog 64 #[.agg #[.int .i64 m, v], .func (.func 65) #[] #[]] w (AnsG 3 1 fInt (suL m cs true) (!(soL m cs).isEmpty) w) := by
  obtain ⟨j0, hj0, hy0, hy1, hy2⟩ := info_parts infoInt
  have HC := Lib.hid (fun W (hB : Below w.heap.size w W) => solutions_impl m bm v cs W (rowG_below h hB))
  have HSZ := Lib.hid (fun (Z : ZL) (hz : Z.map Prod.snd = soL m cs) => (⟨by
    have h1 : Z.length = (soL m cs).length := by rw [← hz, List.length_map]
    have := soL_len9 m cs
    omega, (soZ_len hz).2⟩ : Z.length ≤ 1000 ∧ ∀ p ∈ Z, p.2.length ≤ 100))
  have HRIS := Lib.hid (fun (ws : List Int) (hw : ws ∈ soL m cs) => (soL_all hw).2)
  have HFB : Hid (∀ x ∈ (soL m cs).flatten, 1 ≤ x ∧ x ≤ m - 1 ∧ m ≤ 10) := Lib.hid (fun x hx => by
    obtain ⟨ws, hw, hxw⟩ := List.mem_flatten.1 hx
    obtain ⟨h1, h2, h3⟩ := soL_all hw
    have := ris_bd h1 x hxw
    omega)
  have HSC := Lib.hid (fun x => sure_count (m := m) (soL m cs) (fun ws hw => (soL_all hw).1) true x)
  obtain ⟨a0, c0, rfl, hl1, hl2⟩ := row_shape h
  clear h
  have e3 : suL m cs true = if (soL m cs).isEmpty = true then [] else suP (soL m cs) true (m - 1).toNat := rfl
  rw [e3]
  clear e3
  unfold AnsZ at HC
  generalize pzB m cs = B at *
  generalize soL m cs = L at *
  obtain ⟨K, hK⟩ : ∃ K : Nat, (m - 1).toNat = K := ⟨_, rfl⟩
  rw [hK]
  have HK := Lib.hid hK
  clear hK
  obtain ⟨R, hR⟩ : ∃ R, Hid ((if L.isEmpty = true then [] else suP L true K) = R) := ⟨_, Lib.hid rfl⟩
  rw [hR.out]
  obtain ⟨F, hF⟩ : ∃ F, Hid (L.flatten = F) := ⟨_, Lib.hid rfl⟩
  rw [hF.out] at HSC HFB
  go_enter Try.func64, Try.ntmps64
  go_wp2_with fail
  refine Calls.mono (HC.out _ (by (repeat (first | with_reducible exact Below.refl _ _ | with_reducible assumption | with_reducible refine balloc ?_ _ | with_reducible refine bdrew ?_ | with_reducible refine below_drewN ?_ _ | with_reducible refine bset ?_ ?_ _ | with_reducible exact Nat.le_refl _ | with_reducible refine bsize ?_ | (dsimp only; refine Nat.le_trans ?_ (Nat.le_add_right _ _)) | with_reducible refine Nat.le_trans ?_ (Nat.le_add_right _ _) | (with_reducible refine bstep ?_ (by assumption)))))) ?_
  rintro e w1 ⟨v1, Z1, rfl, hr1, hm1, hb1⟩
  have hbx1 : Blk w.heap.size #[.int .i64 m, .slice a0 cs.length c0] 41 w1 := (Blk.new w _ _).later hb1
  obtain ⟨va, vc, hv⟩ := owns_shape hr1.out
  obtain ⟨n1, hn1⟩ : ∃ n, Z1.length = n := ⟨_, rfl⟩
  have HN := Lib.hid hn1
  rw [hn1] at hv
  subst hv
  have hbw1 : Below w.heap.size w w1 := by (repeat (first | with_reducible exact Below.refl _ _ | with_reducible assumption | with_reducible refine balloc ?_ _ | with_reducible refine bdrew ?_ | with_reducible refine below_drewN ?_ _ | with_reducible refine bset ?_ ?_ _ | with_reducible exact Nat.le_refl _ | with_reducible refine bsize ?_ | (dsimp only; refine Nat.le_trans ?_ (Nat.le_add_right _ _)) | with_reducible refine Nat.le_trans ?_ (Nat.le_add_right _ _) | (with_reducible refine bstep ?_ (by assumption))))
  have hlen := Lib.hid (show L.length = n1 by rw [← hm1, List.length_map, hn1])
  obtain ⟨hn1b, hZs⟩ := HSZ.out Z1 hm1
  rw [hn1] at hn1b
  have HZS := Lib.hid hZs
  have HM1 := Lib.hid hm1
  clear hn1 hb1 hZs hm1 HC
  by_cases h0 : n1 = 0
  · have hE := Lib.hid (show L = [] from List.eq_nil_of_length_eq_zero (by rw [hlen.out, h0]))
    subst h0
    go_wp2
    refine bodyPost_ret (v := .tuple #[.slice none 0 0, .bool false]) (by simp only [results, Try.results64]; go_simp) rfl ?_
    have hR0 : R = [] := by rw [← hR.out, hE.out]; rfl
    exact ⟨_, by rw [hE.out]; rfl, by rw [hR0]; exact World.ownsRow_nil _ _ _ _, hbw1⟩
  · have hne0 : ((n1 : Int) == 0) = false := beq_eq_false_iff_ne.2 (by omega)
    have hni : ¬ (n1 : Int) = 0 := by omega
    have hE := Lib.hid (show L.isEmpty = false by
      cases L with
      | nil => have := hlen.out; simp at this; omega
      | cons a t => rfl)
    have hmb : 1 ≤ m ∧ m ≤ 10 := by
      cases hL : L with
      | nil => have := hlen.out; rw [hL] at this; simp at this; omega
      | cons a t => exact HRIS.out a (by rw [hL]; exact List.mem_cons_self ..)
    have hKm1 : (K : Int) ≤ m - 1 := by have := HK.out; omega
    have hKm2 : m - 1 ≤ (K : Int) := by have := HK.out; omega
    have HCC : Hid (∀ W, Below w1.heap.size w1 W → Calls Try.prog 97 #[.slice va n1 vc] W (EndL 3 1 fInt F W)) := Lib.hid (fun W hB => by
      have h1 := hr1.below hB
      rw [← HN.out] at h1 hn1b ⊢
      have h2 := concatZ_impl _ va vc Z1 W h1 hn1b HZS.out
      have e : flZ Z1 Z1.length = F := by rw [flZ, List.take_length, HM1.out, hF.out]
      rw [e] at h2
      exact h2)
    have HBD : Hid (∀ p ∈ F, ∀ y ∈ fInt p, -9223372036854775808 ≤ y ∧ y ≤ 9223372036854775807) := Lib.hid (fun p hp y hy => by
      have := HFB.out p hp
      simp [fInt] at hy
      subst hy
      omega)
    have hgx := hbx1.lt
    clear hr1 HRIS HSZ
    go_wp2_with fail
    refine Calls.mono (HCC.out _ (by (repeat (first | with_reducible exact Below.refl _ _ | with_reducible assumption | with_reducible refine balloc ?_ _ | with_reducible refine bdrew ?_ | with_reducible refine below_drewN ?_ _ | with_reducible refine bset ?_ ?_ _ | with_reducible exact Nat.le_refl _ | with_reducible refine bsize ?_ | (dsimp only; refine Nat.le_trans ?_ (Nat.le_add_right _ _)) | with_reducible refine Nat.le_trans ?_ (Nat.le_add_right _ _) | (with_reducible refine bstep ?_ (by assumption)))))) ?_
    rintro e w3 ⟨v3, rfl, hown3, hb3⟩
    have hbc3 : Blk w1.heap.size (cntC (F.take 0)) 95 w3 := by rw [List.take_zero, cntC_nil]; exact (Blk.new w1 _ _).later hb3
    have hbx3 : Blk w.heap.size #[.int .i64 m, .slice a0 cs.length c0] 41 w3 := (hbx1.alloc _).later hb3
    have hbw3 : Below w.heap.size w w3 := bstep (by (repeat (first | with_reducible exact Below.refl _ _ | with_reducible assumption | with_reducible refine balloc ?_ _ | with_reducible refine bdrew ?_ | with_reducible refine below_drewN ?_ _ | with_reducible refine bset ?_ ?_ _ | with_reducible exact Nat.le_refl _ | with_reducible refine bsize ?_ | (dsimp only; refine Nat.le_trans ?_ (Nat.le_add_right _ _)) | with_reducible refine Nat.le_trans ?_ (Nat.le_add_right _ _) | (with_reducible refine bstep ?_ (by assumption))))) hb3
    replace hown3 := own_mono hown3 (show w1.heap.size ≤ _ by simp)
    obtain ⟨v3a, v3c, hv3⟩ := owns_shape hown3
    obtain ⟨nf, hnf⟩ : ∃ n, F.length = n := ⟨_, rfl⟩
    have HNF := Lib.hid hnf
    rw [hnf] at hv3 hown3
    subst hv3
    have hcc := own_addr hown3
    have hnc := hcc.2.1
    have hcm : v3c ≤ 9223372036854775807 := by have := hcc.2.2.1; unfold maxLen at this; omega
    clear hnf hb3 hbx1 hcc HCC hbw1
    go_wp2
    go_loopw [24] (fun i wr => ∃ k : Nat, k ≤ nf ∧ i = .int .i64 k ∧ Blk w1.heap.size (cntC (F.take k)) 95 wr ∧ Blk w.heap.size #[.int .i64 m, .slice a0 cs.length c0] 41 wr ∧ wr.ownsRow w1.heap.size 3 1 (.slice v3a nf v3c) nf (cellsG fInt F) ∧ Below w.heap.size w wr) (fun i _ => nf - (intOf i).toNat)
    case atStart => exact ⟨0, Nat.zero_le _, rfl, hbc3, hbx3, hown3, hbw3⟩
    case round =>
      clear hbc3 hbx3 hown3 hbw3
      obtain ⟨k, hk, rfl, hbc, hbx, hown, hbel⟩ := hrel
      by_cases hlt : k < nf
      · obtain ⟨p, hp⟩ : ∃ p, F[k]? = some p := ⟨_, List.getElem?_eq_getElem (by rw [HNF.out]; exact hlt)⟩
        obtain ⟨p1, p2, p3⟩ := HFB.out p (List.mem_of_getElem? hp)
        obtain ⟨j, hj⟩ : ∃ j : Nat, p = (j : Int) := ⟨p.toNat, by omega⟩
        subst hj
        obtain ⟨a', c', hv', _, _, hI⟩ := ints_of (rowG_own (l := F) fInt_len (by rw [HNF.out]; exact hown) HBD.out)
        injection hv' with z1 z2 z3
        subst z1
        obtain ⟨a, rfl, e0, b1, b2⟩ := hI k _ hp
        obtain ⟨c, hc⟩ : ∃ c, (F.take k).count (j : Int) = c := ⟨_, rfl⟩
        have hcb : c ≤ k := by
          rw [← hc]
          exact Nat.le_trans (List.count_le_length) (by rw [List.length_take]; omega)
        have q8 := hbc.cell j
        rw [cntC_get _ (by omega), hc] at q8
        have f8 := hbc.frozen j
        have hj10 : (j : Int) < 10 := by omega
        have wq1 : IntKind.i64.wrap ((c : Int) + 1) = (c : Int) + 1 := IntWalk.i64_in _ (by omega)
        have hput := cntC_put hbc hp (by omega) hc
        have hown' := own_set hown (p := ⟨w1.heap.size, j, none⟩) (hbc.ne_row hown (by decide)) (.int .i64 ((c : Int) + 1))
        have hbx' := hbx.set (a := ⟨w1.heap.size, j, none⟩) (by simp; omega) (.int .i64 ((c : Int) + 1))
        have hbel' : Below w.heap.size w (wr.setCell ⟨w1.heap.size, j, none⟩ (.int .i64 ((c : Int) + 1))) := bset hbel (by simp; omega) _
        clear z2 z3 hI hc hp hbc hbx hown hbel
        go_wp2
        go_roundw
        case rel => exact ⟨k + 1, by omega, by go_num, hput, hbx', hown', hbel'⟩
        case measure => simp [intOf]; omega
      · have ej : F.take k = F := List.take_of_length_le (by rw [HNF.out]; omega)
        rw [ej] at hbc
        clear ej hown
        obtain ⟨wA, hwA⟩ : ∃ W, W = wr := ⟨_, rfl⟩
        subst hwA
        go_wp2
        go_loopw [11, 12] (fun s x wi => ∃ (k nk : Nat) (s6 : Value), k ≤ K ∧ nk ≤ k ∧ x = .int .i64 ((k : Int) + 1) ∧ s6 = s ∧ Hid ((suP L true k).length = nk) ∧ wi.ownsRow wA.heap.size 3 1 s6 nk (cellsG fInt (suP L true k)) ∧ Below wA.heap.size wA wi) (fun _ x _ => (m - intOf x).toNat)
        case atStart => exact ⟨0, 0, _, Nat.zero_le _, Nat.zero_le _, by simp, rfl, Lib.hid (by simp [suP]), World.ownsRow_nil _ _ _ _, Below.refl _ _⟩
        case round =>
          obtain ⟨k2, nk, s6, hk2, hnk, rfl, rfl, hlk, hown6, hbel6⟩ := hrel
          obtain ⟨s6a, s6c, rfl⟩ := owns_shape hown6
          have q0 := (hbx.later hbel6).cell 0
          simp at q0
          by_cases hlt2 : k2 < K
          · have hkm : (k2 : Int) + 1 < m := by omega
            have hk10 : (k2 : Int) + 1 < 10 := by omega
            have hk01 : (0 : Int) ≤ (k2 : Int) + 1 := by omega
            have hkn : ((k2 : Int) + 1).toNat = k2 + 1 := by omega
            obtain ⟨c, hc⟩ : ∃ c, F.count ((k2 : Int) + 1) = c := ⟨_, rfl⟩
            have q8 := (hbc.later hbel6).cell (k2 + 1)
            rw [cntC_get _ (by omega), show ((k2 + 1 : Nat) : Int) = (k2 : Int) + 1 from rfl, hc] at q8
            have hz6 := hbel6.size
            have hsu := Lib.hid (suP_succ L true k2)
            have hsa := Lib.hid (show sureAt L true ((k2 : Int) + 1) = decide (c = n1) by rw [HSC.out, hc, hlen.out]; simp)
            clear hc
            by_cases hcn : c = n1
            · have hnx := Lib.hid (show suP L true (k2 + 1) = suP L true k2 ++ [(k2 : Int) + 1] by rw [hsu.out, hsa.out]; simp [hcn])
              replace q8 : wr.cell? ⟨w1.heap.size, k2 + 1, none⟩ = some (.int .i64 (n1 : Int)) := q8.trans (congrArg (fun x : Nat => some (Value.int .i64 (x : Int))) hcn)
              clear hcn
              go_wp2
              go_region_held3 (fun V => V.cell? ⟨w1.heap.size, k2 + 1, none⟩ = some (.int .i64 (n1 : Int))) (first | with_reducible assumption | exact q8) (first | (go_at_call 65; refine (cloW _ _).mono ?_; rintro e w9 ⟨rfl, rfl⟩))
              go_wp2_with (at_builtin; refine wpList_append_own _ rfl _ _ 24 rfl wA.heap.size 3 j0 (.int .i64 0) 1 8 Try.underlying24 hj0 hy0 hy1 hy2 rfl (by decide) (.slice s6a nk s6c) nk (cellsG fInt (suP L true k2)) rfl (hown6.alloc _) ⟨wr.heap.size, 0, none⟩ 1 1 [.int .i64 ((k2 : Int) + 1)] ?c0 rfl ?c1 ?c2 ?c3 ?c4 ?c5 ?_)
              case c0 => simp [Act.eval, Act.put]
              case c1 => first | exact cell_one_new _ _ _ | (intro k u hk; match k, hk with | 0, hk => (simp at hk; subst hk; simp [go_sem]))
              case c2 => simp [Value.oneCell']
              case c3 => unfold maxLen; omega
              case c4 => omega
              case c5 => simp; omega
              intro s7 w7 hown7 hgr7 _
              have hbA : Below wr.heap.size wr (wr.alloc (.cells #[.int .i64 ((k2 : Int) + 1)] 3)).drew := bdrew (balloc (Below.refl _ _) _)
              have hoA := ownsRow_below hown6 hbA
              have hbel7 : Below wA.heap.size wA w7 := grown_bel (bstep hbel6 hbA) hgr7 hoA (Nat.le_refl _)
              have hown7' : w7.ownsRow wA.heap.size 3 1 s7 (nk + 1) (cellsG fInt (suP L true (k2 + 1))) := by rw [hnx.out, cellsG_append]; exact hown7
              obtain ⟨s7a, s7c, rfl⟩ := owns_shape hown7'
              clear hbA hoA hown7 hgr7 hown6
              go_wp2
              go_roundw
              case rel => exact ⟨k2 + 1, nk + 1, _, by omega, by omega, by go_num, rfl, Lib.hid (by rw [hnx.out, List.length_append, hlk.out]; rfl), hown7', hbel7⟩
              case measure => simp [intOf]; omega
            · have hnx := Lib.hid (show suP L true (k2 + 1) = suP L true k2 by rw [hsu.out, hsa.out]; simp [hcn])
              have hcni : ¬ (c : Int) = n1 := by omega
              have hcb : ((c : Int) == n1) = false := beq_eq_false_iff_ne.2 hcni
              go_wp2
              go_region_held3 (fun V => V.cell? ⟨w1.heap.size, k2 + 1, none⟩ = some (.int .i64 c)) (first | with_reducible assumption | exact q8) (first | (go_at_call 65; refine (cloW _ _).mono ?_; rintro e w9 ⟨rfl, rfl⟩))
              go_wp2
              go_roundw
              case rel => exact ⟨k2 + 1, nk, _, by omega, by omega, by go_num, rfl, by rw [hnx.out]; exact hlk, by rw [hnx.out]; exact hown6, bdrew hbel6⟩
              case measure => simp [intOf]; omega
          · have hkn : k2 = K := by omega
            subst hkn
            have hkm : ¬ (k2 : Int) + 1 < m := by omega
            have hown7 : wr.ownsRow w.heap.size 3 1 (.slice s6a nk s6c) (suP L true k2).length (cellsG fInt (suP L true k2)) := by rw [hlk.out]; exact own_mono hown6 hbel.size
            go_wp2
            refine bodyPost_ret (v := .tuple #[.slice s6a nk s6c, .bool true]) (by simp only [results, Try.results64]; go_simp) rfl ?_
            have hR1 : R = suP L true k2 := by rw [← hR.out, hE.out]; rfl
            exact ⟨_, by rw [hE.out]; rfl, by rw [hR1]; exact hown7, hbel.trans (hbel6.mono hbel.size)⟩
theorem sureW_impl (m : Int) (bm : -9223372036854775808 ≤ m ∧ m ≤ 9223372036854775807) (v : Value) (cs : List ClueV) (w : World) (h : RowG 3 fClue w v cs) :
    Calls Try.prog 35 #[.agg #[.int .i64 m, v]] w (AnsG 3 1 fInt (suL m cs true) (!(soL m cs).isEmpty) w) := by
  have HC := Lib.hid (fun W (hB : Below w.heap.size w W) => sureW1_impl m bm v cs W (rowG_below h hB))
  obtain ⟨a0, c0, rfl, hl1, hl2⟩ := row_shape h
  clear h
  generalize suL m cs true = L at *
  generalize (!(soL m cs).isEmpty) = B at *
  go_enter Try.func35, Try.ntmps35
  go_wp2_with fail
  refine Calls.mono (HC.out _ (by (repeat (first | with_reducible exact Below.refl _ _ | with_reducible assumption | with_reducible refine balloc ?_ _ | with_reducible refine bdrew ?_ | with_reducible refine below_drewN ?_ _ | with_reducible refine bset ?_ ?_ _ | with_reducible exact Nat.le_refl _ | with_reducible refine bsize ?_ | (dsimp only; refine Nat.le_trans ?_ (Nat.le_add_right _ _)) | with_reducible refine Nat.le_trans ?_ (Nat.le_add_right _ _) | (with_reducible refine bstep ?_ (by assumption)))))) ?_
  rintro e w1 ⟨v1, rfl, hown1, hb1⟩
  obtain ⟨a1, c1, rfl⟩ := owns_shape hown1
  go_wp2
  refine bodyPost_ret (v := .tuple #[.slice a1 L.length c1, .bool B]) (by simp only [results, Try.results35]; go_simp) rfl ?_
  exact ⟨_, rfl, own_mono hown1 (by simp), by (repeat (first | with_reducible exact Below.refl _ _ | with_reducible assumption | with_reducible refine balloc ?_ _ | with_reducible refine bdrew ?_ | with_reducible refine below_drewN ?_ _ | with_reducible refine bset ?_ ?_ _ | with_reducible exact Nat.le_refl _ | with_reducible refine bsize ?_ | (dsimp only; refine Nat.le_trans ?_ (Nat.le_add_right _ _)) | with_reducible refine Nat.le_trans ?_ (Nat.le_add_right _ _) | (with_reducible refine bstep ?_ (by assumption))))⟩
theorem cloD (n : Nat) (w : World) : Calls Try.prog 66 #[.int .i64 n] w fun e w' => e = .returned (.int .i64 0) ∧ w = w' := by
  go_enter Try.func66, Try.ntmps66
  go_wp2
  go_ret
  exact ⟨rfl, rfl⟩
set_option maxHeartbeats 6400000 in
theorem sureD1_impl (m : Int) (bm : -9223372036854775808 ≤ m ∧ m ≤ 9223372036854775807) (v : Value) (cs : List ClueV) (w : World) (h : RowG 3 fClue w v cs) :
    Calls Try.prog 64 #[.agg #[.int .i64 m, v], .func (.func 66) #[] #[]] w (AnsG 3 1 fInt (suL m cs false) (!(soL m cs).isEmpty) w) := by
  obtain ⟨j0, hj0, hy0, hy1, hy2⟩ := info_parts infoInt
  have HC := Lib.hid (fun W (hB : Below w.heap.size w W) => solutions_impl m bm v cs W (rowG_below h hB))
  have HSZ := Lib.hid (fun (Z : ZL) (hz : Z.map Prod.snd = soL m cs) => (⟨by
    have h1 : Z.length = (soL m cs).length := by rw [← hz, List.length_map]
    have := soL_len9 m cs
    omega, (soZ_len hz).2⟩ : Z.length ≤ 1000 ∧ ∀ p ∈ Z, p.2.length ≤ 100))
  have HRIS := Lib.hid (fun (ws : List Int) (hw : ws ∈ soL m cs) => (soL_all hw).2)
  have HFB : Hid (∀ x ∈ (soL m cs).flatten, 1 ≤ x ∧ x ≤ m - 1 ∧ m ≤ 10) := Lib.hid (fun x hx => by
    obtain ⟨ws, hw, hxw⟩ := List.mem_flatten.1 hx
    obtain ⟨h1, h2, h3⟩ := soL_all hw
    have := ris_bd h1 x hxw
    omega)
  have HSC := Lib.hid (fun x => sure_count (m := m) (soL m cs) (fun ws hw => (soL_all hw).1) false x)
  obtain ⟨a0, c0, rfl, hl1, hl2⟩ := row_shape h
  clear h
  have e3 : suL m cs false = if (soL m cs).isEmpty = true then [] else suP (soL m cs) false (m - 1).toNat := rfl
  rw [e3]
  clear e3
  unfold AnsZ at HC
  generalize pzB m cs = B at *
  generalize soL m cs = L at *
  obtain ⟨K, hK⟩ : ∃ K : Nat, (m - 1).toNat = K := ⟨_, rfl⟩
  rw [hK]
  have HK := Lib.hid hK
  clear hK
  obtain ⟨R, hR⟩ : ∃ R, Hid ((if L.isEmpty = true then [] else suP L false K) = R) := ⟨_, Lib.hid rfl⟩
  rw [hR.out]
  obtain ⟨F, hF⟩ : ∃ F, Hid (L.flatten = F) := ⟨_, Lib.hid rfl⟩
  rw [hF.out] at HSC HFB
  go_enter Try.func64, Try.ntmps64
  go_wp2_with fail
  refine Calls.mono (HC.out _ (by (repeat (first | with_reducible exact Below.refl _ _ | with_reducible assumption | with_reducible refine balloc ?_ _ | with_reducible refine bdrew ?_ | with_reducible refine below_drewN ?_ _ | with_reducible refine bset ?_ ?_ _ | with_reducible exact Nat.le_refl _ | with_reducible refine bsize ?_ | (dsimp only; refine Nat.le_trans ?_ (Nat.le_add_right _ _)) | with_reducible refine Nat.le_trans ?_ (Nat.le_add_right _ _) | (with_reducible refine bstep ?_ (by assumption)))))) ?_
  rintro e w1 ⟨v1, Z1, rfl, hr1, hm1, hb1⟩
  have hbx1 : Blk w.heap.size #[.int .i64 m, .slice a0 cs.length c0] 41 w1 := (Blk.new w _ _).later hb1
  obtain ⟨va, vc, hv⟩ := owns_shape hr1.out
  obtain ⟨n1, hn1⟩ : ∃ n, Z1.length = n := ⟨_, rfl⟩
  have HN := Lib.hid hn1
  rw [hn1] at hv
  subst hv
  have hbw1 : Below w.heap.size w w1 := by (repeat (first | with_reducible exact Below.refl _ _ | with_reducible assumption | with_reducible refine balloc ?_ _ | with_reducible refine bdrew ?_ | with_reducible refine below_drewN ?_ _ | with_reducible refine bset ?_ ?_ _ | with_reducible exact Nat.le_refl _ | with_reducible refine bsize ?_ | (dsimp only; refine Nat.le_trans ?_ (Nat.le_add_right _ _)) | with_reducible refine Nat.le_trans ?_ (Nat.le_add_right _ _) | (with_reducible refine bstep ?_ (by assumption))))
  have hlen := Lib.hid (show L.length = n1 by rw [← hm1, List.length_map, hn1])
  obtain ⟨hn1b, hZs⟩ := HSZ.out Z1 hm1
  rw [hn1] at hn1b
  have HZS := Lib.hid hZs
  have HM1 := Lib.hid hm1
  clear hn1 hb1 hZs hm1 HC
  by_cases h0 : n1 = 0
  · have hE := Lib.hid (show L = [] from List.eq_nil_of_length_eq_zero (by rw [hlen.out, h0]))
    subst h0
    go_wp2
    refine bodyPost_ret (v := .tuple #[.slice none 0 0, .bool false]) (by simp only [results, Try.results64]; go_simp) rfl ?_
    have hR0 : R = [] := by rw [← hR.out, hE.out]; rfl
    exact ⟨_, by rw [hE.out]; rfl, by rw [hR0]; exact World.ownsRow_nil _ _ _ _, hbw1⟩
  · have hne0 : ((n1 : Int) == 0) = false := beq_eq_false_iff_ne.2 (by omega)
    have hni : ¬ (n1 : Int) = 0 := by omega
    have hE := Lib.hid (show L.isEmpty = false by
      cases L with
      | nil => have := hlen.out; simp at this; omega
      | cons a t => rfl)
    have hmb : 1 ≤ m ∧ m ≤ 10 := by
      cases hL : L with
      | nil => have := hlen.out; rw [hL] at this; simp at this; omega
      | cons a t => exact HRIS.out a (by rw [hL]; exact List.mem_cons_self ..)
    have hKm1 : (K : Int) ≤ m - 1 := by have := HK.out; omega
    have hKm2 : m - 1 ≤ (K : Int) := by have := HK.out; omega
    have HCC : Hid (∀ W, Below w1.heap.size w1 W → Calls Try.prog 97 #[.slice va n1 vc] W (EndL 3 1 fInt F W)) := Lib.hid (fun W hB => by
      have h1 := hr1.below hB
      rw [← HN.out] at h1 hn1b ⊢
      have h2 := concatZ_impl _ va vc Z1 W h1 hn1b HZS.out
      have e : flZ Z1 Z1.length = F := by rw [flZ, List.take_length, HM1.out, hF.out]
      rw [e] at h2
      exact h2)
    have HBD : Hid (∀ p ∈ F, ∀ y ∈ fInt p, -9223372036854775808 ≤ y ∧ y ≤ 9223372036854775807) := Lib.hid (fun p hp y hy => by
      have := HFB.out p hp
      simp [fInt] at hy
      subst hy
      omega)
    have hgx := hbx1.lt
    clear hr1 HRIS HSZ
    go_wp2_with fail
    refine Calls.mono (HCC.out _ (by (repeat (first | with_reducible exact Below.refl _ _ | with_reducible assumption | with_reducible refine balloc ?_ _ | with_reducible refine bdrew ?_ | with_reducible refine below_drewN ?_ _ | with_reducible refine bset ?_ ?_ _ | with_reducible exact Nat.le_refl _ | with_reducible refine bsize ?_ | (dsimp only; refine Nat.le_trans ?_ (Nat.le_add_right _ _)) | with_reducible refine Nat.le_trans ?_ (Nat.le_add_right _ _) | (with_reducible refine bstep ?_ (by assumption)))))) ?_
    rintro e w3 ⟨v3, rfl, hown3, hb3⟩
    have hbc3 : Blk w1.heap.size (cntC (F.take 0)) 95 w3 := by rw [List.take_zero, cntC_nil]; exact (Blk.new w1 _ _).later hb3
    have hbx3 : Blk w.heap.size #[.int .i64 m, .slice a0 cs.length c0] 41 w3 := (hbx1.alloc _).later hb3
    have hbw3 : Below w.heap.size w w3 := bstep (by (repeat (first | with_reducible exact Below.refl _ _ | with_reducible assumption | with_reducible refine balloc ?_ _ | with_reducible refine bdrew ?_ | with_reducible refine below_drewN ?_ _ | with_reducible refine bset ?_ ?_ _ | with_reducible exact Nat.le_refl _ | with_reducible refine bsize ?_ | (dsimp only; refine Nat.le_trans ?_ (Nat.le_add_right _ _)) | with_reducible refine Nat.le_trans ?_ (Nat.le_add_right _ _) | (with_reducible refine bstep ?_ (by assumption))))) hb3
    replace hown3 := own_mono hown3 (show w1.heap.size ≤ _ by simp)
    obtain ⟨v3a, v3c, hv3⟩ := owns_shape hown3
    obtain ⟨nf, hnf⟩ : ∃ n, F.length = n := ⟨_, rfl⟩
    have HNF := Lib.hid hnf
    rw [hnf] at hv3 hown3
    subst hv3
    have hcc := own_addr hown3
    have hnc := hcc.2.1
    have hcm : v3c ≤ 9223372036854775807 := by have := hcc.2.2.1; unfold maxLen at this; omega
    clear hnf hb3 hbx1 hcc HCC hbw1
    go_wp2
    go_loopw [24] (fun i wr => ∃ k : Nat, k ≤ nf ∧ i = .int .i64 k ∧ Blk w1.heap.size (cntC (F.take k)) 95 wr ∧ Blk w.heap.size #[.int .i64 m, .slice a0 cs.length c0] 41 wr ∧ wr.ownsRow w1.heap.size 3 1 (.slice v3a nf v3c) nf (cellsG fInt F) ∧ Below w.heap.size w wr) (fun i _ => nf - (intOf i).toNat)
    case atStart => exact ⟨0, Nat.zero_le _, rfl, hbc3, hbx3, hown3, hbw3⟩
    case round =>
      clear hbc3 hbx3 hown3 hbw3
      obtain ⟨k, hk, rfl, hbc, hbx, hown, hbel⟩ := hrel
      by_cases hlt : k < nf
      · obtain ⟨p, hp⟩ : ∃ p, F[k]? = some p := ⟨_, List.getElem?_eq_getElem (by rw [HNF.out]; exact hlt)⟩
        obtain ⟨p1, p2, p3⟩ := HFB.out p (List.mem_of_getElem? hp)
        obtain ⟨j, hj⟩ : ∃ j : Nat, p = (j : Int) := ⟨p.toNat, by omega⟩
        subst hj
        obtain ⟨a', c', hv', _, _, hI⟩ := ints_of (rowG_own (l := F) fInt_len (by rw [HNF.out]; exact hown) HBD.out)
        injection hv' with z1 z2 z3
        subst z1
        obtain ⟨a, rfl, e0, b1, b2⟩ := hI k _ hp
        obtain ⟨c, hc⟩ : ∃ c, (F.take k).count (j : Int) = c := ⟨_, rfl⟩
        have hcb : c ≤ k := by
          rw [← hc]
          exact Nat.le_trans (List.count_le_length) (by rw [List.length_take]; omega)
        have q8 := hbc.cell j
        rw [cntC_get _ (by omega), hc] at q8
        have f8 := hbc.frozen j
        have hj10 : (j : Int) < 10 := by omega
        have wq1 : IntKind.i64.wrap ((c : Int) + 1) = (c : Int) + 1 := IntWalk.i64_in _ (by omega)
        have hput := cntC_put hbc hp (by omega) hc
        have hown' := own_set hown (p := ⟨w1.heap.size, j, none⟩) (hbc.ne_row hown (by decide)) (.int .i64 ((c : Int) + 1))
        have hbx' := hbx.set (a := ⟨w1.heap.size, j, none⟩) (by simp; omega) (.int .i64 ((c : Int) + 1))
        have hbel' : Below w.heap.size w (wr.setCell ⟨w1.heap.size, j, none⟩ (.int .i64 ((c : Int) + 1))) := bset hbel (by simp; omega) _
        clear z2 z3 hI hc hp hbc hbx hown hbel
        go_wp2
        go_roundw
        case rel => exact ⟨k + 1, by omega, by go_num, hput, hbx', hown', hbel'⟩
        case measure => simp [intOf]; omega
      · have ej : F.take k = F := List.take_of_length_le (by rw [HNF.out]; omega)
        rw [ej] at hbc
        clear ej hown
        obtain ⟨wA, hwA⟩ : ∃ W, W = wr := ⟨_, rfl⟩
        subst hwA
        go_wp2
        go_loopw [11, 12] (fun s x wi => ∃ (k nk : Nat) (s6 : Value), k ≤ K ∧ nk ≤ k ∧ x = .int .i64 ((k : Int) + 1) ∧ s6 = s ∧ Hid ((suP L false k).length = nk) ∧ wi.ownsRow wA.heap.size 3 1 s6 nk (cellsG fInt (suP L false k)) ∧ Below wA.heap.size wA wi) (fun _ x _ => (m - intOf x).toNat)
        case atStart => exact ⟨0, 0, _, Nat.zero_le _, Nat.zero_le _, by simp, rfl, Lib.hid (by simp [suP]), World.ownsRow_nil _ _ _ _, Below.refl _ _⟩
        case round =>
          obtain ⟨k2, nk, s6, hk2, hnk, rfl, rfl, hlk, hown6, hbel6⟩ := hrel
          obtain ⟨s6a, s6c, rfl⟩ := owns_shape hown6
          have q0 := (hbx.later hbel6).cell 0
          simp at q0
          by_cases hlt2 : k2 < K
          · have hkm : (k2 : Int) + 1 < m := by omega
            have hk10 : (k2 : Int) + 1 < 10 := by omega
            have hk01 : (0 : Int) ≤ (k2 : Int) + 1 := by omega
            have hkn : ((k2 : Int) + 1).toNat = k2 + 1 := by omega
            obtain ⟨c, hc⟩ : ∃ c, F.count ((k2 : Int) + 1) = c := ⟨_, rfl⟩
            have q8 := (hbc.later hbel6).cell (k2 + 1)
            rw [cntC_get _ (by omega), show ((k2 + 1 : Nat) : Int) = (k2 : Int) + 1 from rfl, hc] at q8
            have hz6 := hbel6.size
            have hsu := Lib.hid (suP_succ L false k2)
            have hsa := Lib.hid (show sureAt L false ((k2 : Int) + 1) = decide (c = 0) by rw [HSC.out, hc, hlen.out]; simp)
            clear hc
            by_cases hcn : c = 0
            · have hnx := Lib.hid (show suP L false (k2 + 1) = suP L false k2 ++ [(k2 : Int) + 1] by rw [hsu.out, hsa.out]; simp [hcn])
              replace q8 : wr.cell? ⟨w1.heap.size, k2 + 1, none⟩ = some (.int .i64 0) := q8.trans (congrArg (fun x : Nat => some (Value.int .i64 (x : Int))) hcn)
              clear hcn
              go_wp2
              go_region_held3 (fun V => V.cell? ⟨w1.heap.size, k2 + 1, none⟩ = some (.int .i64 0)) (first | with_reducible assumption | exact q8) (first | (go_at_call 66; refine (cloD _ _).mono ?_; rintro e w9 ⟨rfl, rfl⟩))
              go_wp2_with (at_builtin; refine wpList_append_own _ rfl _ _ 24 rfl wA.heap.size 3 j0 (.int .i64 0) 1 8 Try.underlying24 hj0 hy0 hy1 hy2 rfl (by decide) (.slice s6a nk s6c) nk (cellsG fInt (suP L false k2)) rfl (hown6.alloc _) ⟨wr.heap.size, 0, none⟩ 1 1 [.int .i64 ((k2 : Int) + 1)] ?c0 rfl ?c1 ?c2 ?c3 ?c4 ?c5 ?_)
              case c0 => simp [Act.eval, Act.put]
              case c1 => first | exact cell_one_new _ _ _ | (intro k u hk; match k, hk with | 0, hk => (simp at hk; subst hk; simp [go_sem]))
              case c2 => simp [Value.oneCell']
              case c3 => unfold maxLen; omega
              case c4 => omega
              case c5 => simp; omega
              intro s7 w7 hown7 hgr7 _
              have hbA : Below wr.heap.size wr (wr.alloc (.cells #[.int .i64 ((k2 : Int) + 1)] 3)).drew := bdrew (balloc (Below.refl _ _) _)
              have hoA := ownsRow_below hown6 hbA
              have hbel7 : Below wA.heap.size wA w7 := grown_bel (bstep hbel6 hbA) hgr7 hoA (Nat.le_refl _)
              have hown7' : w7.ownsRow wA.heap.size 3 1 s7 (nk + 1) (cellsG fInt (suP L false (k2 + 1))) := by rw [hnx.out, cellsG_append]; exact hown7
              obtain ⟨s7a, s7c, rfl⟩ := owns_shape hown7'
              clear hbA hoA hown7 hgr7 hown6
              go_wp2
              go_roundw
              case rel => exact ⟨k2 + 1, nk + 1, _, by omega, by omega, by go_num, rfl, Lib.hid (by rw [hnx.out, List.length_append, hlk.out]; rfl), hown7', hbel7⟩
              case measure => simp [intOf]; omega
            · have hnx := Lib.hid (show suP L false (k2 + 1) = suP L false k2 by rw [hsu.out, hsa.out]; simp [hcn])
              have hcni : ¬ (c : Int) = 0 := by omega
              have hcb : ((c : Int) == 0) = false := beq_eq_false_iff_ne.2 hcni
              go_wp2
              go_region_held3 (fun V => V.cell? ⟨w1.heap.size, k2 + 1, none⟩ = some (.int .i64 c)) (first | with_reducible assumption | exact q8) (first | (go_at_call 66; refine (cloD _ _).mono ?_; rintro e w9 ⟨rfl, rfl⟩))
              go_wp2
              go_roundw
              case rel => exact ⟨k2 + 1, nk, _, by omega, by omega, by go_num, rfl, by rw [hnx.out]; exact hlk, by rw [hnx.out]; exact hown6, bdrew hbel6⟩
              case measure => simp [intOf]; omega
          · have hkn : k2 = K := by omega
            subst hkn
            have hkm : ¬ (k2 : Int) + 1 < m := by omega
            have hown7 : wr.ownsRow w.heap.size 3 1 (.slice s6a nk s6c) (suP L false k2).length (cellsG fInt (suP L false k2)) := by rw [hlk.out]; exact own_mono hown6 hbel.size
            go_wp2
            refine bodyPost_ret (v := .tuple #[.slice s6a nk s6c, .bool true]) (by simp only [results, Try.results64]; go_simp) rfl ?_
            have hR1 : R = suP L false k2 := by rw [← hR.out, hE.out]; rfl
            exact ⟨_, by rw [hE.out]; rfl, by rw [hR1]; exact hown7, hbel.trans (hbel6.mono hbel.size)⟩
theorem sureD_impl (m : Int) (bm : -9223372036854775808 ≤ m ∧ m ≤ 9223372036854775807) (v : Value) (cs : List ClueV) (w : World) (h : RowG 3 fClue w v cs) :
    Calls Try.prog 37 #[.agg #[.int .i64 m, v]] w (AnsG 3 1 fInt (suL m cs false) (!(soL m cs).isEmpty) w) := by
  have HC := Lib.hid (fun W (hB : Below w.heap.size w W) => sureD1_impl m bm v cs W (rowG_below h hB))
  obtain ⟨a0, c0, rfl, hl1, hl2⟩ := row_shape h
  clear h
  generalize suL m cs false = L at *
  generalize (!(soL m cs).isEmpty) = B at *
  go_enter Try.func37, Try.ntmps37
  go_wp2_with fail
  refine Calls.mono (HC.out _ (by (repeat (first | with_reducible exact Below.refl _ _ | with_reducible assumption | with_reducible refine balloc ?_ _ | with_reducible refine bdrew ?_ | with_reducible refine below_drewN ?_ _ | with_reducible refine bset ?_ ?_ _ | with_reducible exact Nat.le_refl _ | with_reducible refine bsize ?_ | (dsimp only; refine Nat.le_trans ?_ (Nat.le_add_right _ _)) | with_reducible refine Nat.le_trans ?_ (Nat.le_add_right _ _) | (with_reducible refine bstep ?_ (by assumption)))))) ?_
  rintro e w1 ⟨v1, rfl, hown1, hb1⟩
  obtain ⟨a1, c1, rfl⟩ := owns_shape hown1
  go_wp2
  refine bodyPost_ret (v := .tuple #[.slice a1 L.length c1, .bool B]) (by simp only [results, Try.results37]; go_simp) rfl ?_
  exact ⟨_, rfl, own_mono hown1 (by simp), by (repeat (first | with_reducible exact Below.refl _ _ | with_reducible assumption | with_reducible refine balloc ?_ _ | with_reducible refine bdrew ?_ | with_reducible refine below_drewN ?_ _ | with_reducible refine bset ?_ ?_ _ | with_reducible exact Nat.le_refl _ | with_reducible refine bsize ?_ | (dsimp only; refine Nat.le_trans ?_ (Nat.le_add_right _ _)) | with_reducible refine Nat.le_trans ?_ (Nat.le_add_right _ _) | (with_reducible refine bstep ?_ (by assumption))))⟩
end Go.Proofs.Ytiafmojmanhdoaa
