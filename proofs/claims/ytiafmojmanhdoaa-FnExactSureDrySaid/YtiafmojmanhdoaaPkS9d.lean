/- Several texts in one, in their order. -/
import Derived.Test.YtiafmojmanhdoaaPkS9b
import Derived.Test.YtiafmojmanhdoaaPkS9c
import Derived.Deep.RegionHeld3
import Derived.Deep.DeepCutAuto
import Derived.Test.YtiafmojmanhdoaaAns
import Derived.Laws.EntriesVeiled
import Derived.Test.YtiafmojmanhdoaaPkS9a
import Derived.Test.YtiafmojmanhdoaaLClue
import Derived.Test.YtiafmojmanhdoaaRowS
import Derived.Laws.AppendOwnNone
import Derived.Lib.AppendZerosOnto
import Derived.Test.YtiafmojmanhdoaaPzP
/- Puzzles: all wells that fit some clues, of the model. -/
namespace Go.Proofs.Ytiafmojmanhdoaa
open Go.ChangeShapes Go.WideShapes Go.ChangeAt Go.RowKit Go.Joins
set_option maxRecDepth 100000
set_option linter.unusedVariables false
set_option linter.unusedSimpArgs false

/-- How the search ends: the box holds some lists more. -/
def EndLk (h0 gg : Nat) (Z : ZL) (X : List (List Int)) (W : World) (e : Ending) (w' : World) : Prop :=
  e = .returned (.tuple #[]) ∧ ∃ v' Z', Blk gg #[v'] 36 w' ∧ RowsZ h0 w' v' (Z ++ Z') ∧ Hid (Z'.map Prod.snd = X) ∧ LkKeep h0 (some gg) W w'
set_option maxHeartbeats 6400000 in
theorem look_spec (m : Int) (m1 : 1 ≤ m) (m2 : m ≤ 10) (a0 : Option Addr) (c0 n8 : Nat) (cs : List ClueV) (hn8 : cs.length = n8) (hcs : ∀ p ∈ cs, clP m p = true) (hc1 : n8 ≤ c0) (hc2 : c0 ≤ 9223372036854775807) (w0 : World) (hcl : CluesAt w0 a0 cs) (gg : Nat) (hgg : w0.heap.size ≤ gg) :
    ∀ (k : Nat) (f : Int) (ws : List Int) (u : Value), f + k = m → 1 ≤ f → risB f 0 ws = true → ∀ (W : World) (v : Value) (Z : ZL), Below w0.heap.size w0 W → Blk gg #[v] 36 W → RowsZ w0.heap.size W v Z → W.ownsRow w0.heap.size 3 1 u ws.length (cellsG fInt ws) → Z.length + (ws :: wsM k f ws).length ≤ 1024 →
      Calls Try.prog 91 #[.int .i64 m, .slice a0 n8 c0, u, .int .i64 f, .pointer (some ⟨gg, 0, none⟩)] W (EndLk w0.heap.size gg Z ((ws :: wsM k f ws).filter (fitL m cs)) W) := by
  obtain ⟨i0, hi, hz0, hz1, hz2⟩ := info_parts infoSI
  obtain ⟨j0, hj0, hy0, hy1, hy2⟩ := info_parts infoInt
  intro k
  induction k using Nat.strongRecOn with
  | ind k ih =>
    intro f ws u hfk hf1 hris W v Z hbW hblk hrows hu hlen
    have hrism : risB m 0 ws = true := risB_top (by omega) hris
    have hbds : ∀ x ∈ ws, -9223372036854775808 ≤ x ∧ x ≤ 9223372036854775807 := fun x hx => by have := ris_bd hrism x hx; omega
    have h9 := ris_len9 m2 hrism
    have hzW : w0.heap.size ≤ W.heap.size := hbW.size
    have HU := Lib.hid (fun (W' : World) (hk : LkKeep w0.heap.size (some gg) W W') => hk.row hu (fun g e => by injection e with e; subst e; exact neT hu hblk (by decide)))
    have HF := Lib.hid (fun (p : ClueV) (hp : p ∈ cs) (W' : World) (hB : LkKeep w0.heap.size (some gg) W W') => fits_spec m p.k p.a p.b m1 m2 (hcs p hp) u ws hrism W' (rowG_own fInt_len (HU.out W' hB) (fun q hq y hy => by simp [fInt] at hy; subst hy; exact hbds _ hq)))
    have HO := Lib.hid (fun (W' : World) (hB : LkKeep w0.heap.size (some gg) W W') => own_spec u ws (by omega) W' (rowG_own fInt_len (HU.out W' hB) (fun q hq y hy => by simp [fInt] at hy; subst hy; exact hbds _ hq)))
    have HC := Lib.hid hcl
    have HR := Lib.hid hrows
    have HB := Lib.hid hblk
    have HZ := Lib.hid hlen
    have IH := Lib.hid ih
    have HN := Lib.hid hn8
    have HRI := Lib.hid hris
    have HW := Lib.hid hbW
    obtain ⟨ua, uc, rfl⟩ := owns_shape hu
    clear hcl hrows hu hlen ih hcs hbds hris hrism hbW
    have hun := HU.out W (LkKeep.refl _ _ _)
    go_enter Try.func91, Try.ntmps91
    go_wp2
    go_loopw [10, 16] (fun x i wr => ∃ j : Nat, j ≤ n8 ∧ i = .int .i64 j ∧ x = .bool (fitL m (cs.take j) ws) ∧ Below W.heap.size W wr) (fun _ i _ => n8 - (intOf i).toNat)
    case atStart => exact ⟨0, Nat.zero_le _, rfl, by simp [fitL], Below.refl _ _⟩
    case round =>
      obtain ⟨j, hj, rfl, rfl, hbel⟩ := hrel
      by_cases hlt : j < n8
      · obtain ⟨p, hp⟩ : ∃ p, cs[j]? = some p := ⟨_, List.getElem?_eq_getElem (by rw [HN.out]; exact hlt)⟩
        obtain ⟨a, rfl, e0, e1, e2⟩ := (HC.out.later (HW.out.trans (hbel.mono hzW))) j p hp
        have hs := Lib.hid (fitL_take (m := m) (ws := ws) hp)
        have hm := Lib.hid (List.mem_of_getElem? hp)
        clear hp
        cases hB : fitL m (cs.take j) ws
        · go_wp2
          go_roundw
          case rel => exact ⟨j + 1, by omega, by go_num, by rw [hs.out, hB]; rfl, by (repeat (first | with_reducible exact Below.refl _ _ | with_reducible assumption | with_reducible refine balloc ?_ _ | with_reducible refine bdrew ?_ | with_reducible refine below_drewN ?_ _ | with_reducible refine bset ?_ ?_ _ | with_reducible exact Nat.le_refl _ | with_reducible refine bsize ?_ | (dsimp only; refine Nat.le_trans ?_ (Nat.le_add_right _ _)) | with_reducible refine Nat.le_trans ?_ (Nat.le_add_right _ _) | (with_reducible refine bstep ?_ (by assumption))))⟩
          case measure => simp [intOf]; omega
        · go_wp2_with fail
          refine Calls.mono (HF.out p hm.out _ (LkKeep.of (by (repeat (first | with_reducible exact Below.refl _ _ | with_reducible assumption | with_reducible refine balloc ?_ _ | with_reducible refine bdrew ?_ | with_reducible refine below_drewN ?_ _ | with_reducible refine bset ?_ ?_ _ | with_reducible exact Nat.le_refl _ | with_reducible refine bsize ?_ | (dsimp only; refine Nat.le_trans ?_ (Nat.le_add_right _ _)) | with_reducible refine Nat.le_trans ?_ (Nat.le_add_right _ _) | (with_reducible refine bstep ?_ (by assumption))))) hzW)) ?_
          rintro e w2 ⟨rfl, hb2⟩
          go_wp2
          go_roundw
          case rel => exact ⟨j + 1, by omega, by go_num, by rw [hs.out, hB]; rfl, by (repeat (first | with_reducible exact Below.refl _ _ | with_reducible assumption | with_reducible refine balloc ?_ _ | with_reducible refine bdrew ?_ | with_reducible refine below_drewN ?_ _ | with_reducible refine bset ?_ ?_ _ | with_reducible exact Nat.le_refl _ | with_reducible refine bsize ?_ | (dsimp only; refine Nat.le_trans ?_ (Nat.le_add_right _ _)) | with_reducible refine Nat.le_trans ?_ (Nat.le_add_right _ _) | (with_reducible refine bstep ?_ (by assumption))))⟩
          case measure => simp [intOf]; omega
      · have ej : cs.take j = cs := List.take_of_length_le (by rw [HN.out]; omega)
        rw [ej]
        clear ej
        have HX1 := Lib.hid (List.filter_cons (p := fitL m cs) (x := ws) (xs := wsM k f ws))
        cases hB : fitL m cs ws
        case' false =>
          obtain ⟨v5, Z5, hb5, hr5, hl5, hm5, hk5⟩ : ∃ v5 Z5, Blk gg #[v5] 36 wr ∧ RowsZ w0.heap.size wr v5 (Z ++ Z5) ∧ Hid (Z5.length ≤ 1) ∧ Hid (Z5.map Prod.snd ++ (wsM k f ws).filter (fitL m cs) = (ws :: wsM k f ws).filter (fitL m cs)) ∧ LkKeep w0.heap.size (some gg) W wr :=
            ⟨v, [], HB.out.later hbel, by rw [List.append_nil]; exact HR.out.below hbel, Lib.hid (by simp), Lib.hid (by rw [HX1.out, hB]; rfl), LkKeep.of hbel hzW⟩
          clear hB hbel HX1
          obtain ⟨w5, rfl⟩ : ∃ w5, wr = w5 := ⟨_, rfl⟩
        case' true =>
          have HX2 := Lib.hid (show (ws :: wsM k f ws).filter (fitL m cs) = ws :: (wsM k f ws).filter (fitL m cs) by rw [HX1.out, hB]; rfl)
          clear HX1
          have hbk := HB.out.later hbel
          have hrw := HR.out.below hbel
          have hbr := hrw.out
          have c00 := hbk.cell 0
          go_upto_region 7 with fail
          clear hB hlt hj
          refine wp_region_noPanic ?_
          refine wp_region_T 9 (fun V => V.cell? ⟨gg, 0, none⟩ = some v) (by kernel_rfl) (by simpa using hbk.cell 0) (fun hHeld => ?_)
          (refine wpAnyT_take (i := 0) (v := ?_) (by rfl) (by kernel_rfl) (by kernel_rfl) (by kernel_rfl) (by kernel_rfl) (fun _ _ _ h => h) (Or.inl ⟨by rfl, ?_⟩) (by assumption) ?_; rotate_left; (focus (intro w hSw; (try dsimp only at hSw); go_simp; (try with_reducible rfl))); (try simp only [Act.put, List.setIfInBounds_toArray, List.set_cons_zero, List.set_cons_succ]))
          (refine wpAnyT_take (i := 1) (v := ?_) (by rfl) (by kernel_rfl) (by kernel_rfl) (by kernel_rfl) (by kernel_rfl) (fun _ _ _ h => h) (Or.inl ⟨by rfl, ?_⟩) (by assumption) ?_; rotate_left; (focus (intro w hSw; (try dsimp only at hSw); go_simp; (try with_reducible rfl))); (try simp only [Act.put, List.setIfInBounds_toArray, List.set_cons_zero, List.set_cons_succ]))
          (refine wpAnyT_take (i := 2) (v := ?_) (by rfl) (by kernel_rfl) (by kernel_rfl) (by kernel_rfl) (by kernel_rfl) (fun _ _ _ h => h) (Or.inl ⟨by rfl, ?_⟩) (by assumption) ?_; rotate_left; (focus (intro w hSw; (try dsimp only at hSw); go_simp; (try with_reducible rfl))); (try simp only [Act.put, List.setIfInBounds_toArray, List.set_cons_zero, List.set_cons_succ]))
          (refine wpAnyT_take (i := 3) (v := ?_) (by rfl) (by kernel_rfl) (by kernel_rfl) (by kernel_rfl) (by kernel_rfl) (fun _ _ _ h => h) (Or.inl ⟨by rfl, ?_⟩) (by assumption) ?_; rotate_left; (focus (intro w hSw; (try dsimp only at hSw); go_simp; (try with_reducible rfl))); (try simp only [Act.put, List.setIfInBounds_toArray, List.set_cons_zero, List.set_cons_succ]))
          (refine wpAnyT_take (i := 4) (v := ?_) (by rfl) (by kernel_rfl) (by kernel_rfl) (by kernel_rfl) (by kernel_rfl) (fun _ _ _ h => h) (Or.inl ⟨by rfl, ?_⟩) (by assumption) ?_; rotate_left; (focus (intro w hSw; (try dsimp only at hSw); go_simp; (try with_reducible rfl))); (try simp only [Act.put, List.setIfInBounds_toArray, List.set_cons_zero, List.set_cons_succ]))
          (refine wpAnyT_one (i := 5) (by kernel_rfl) (by rfl) (fun K hK => ?_); go_simp; (refine Calls.mono (HO.out _ (LkKeep.of (show Below W.heap.size W _ by (repeat (first | with_reducible exact Below.refl _ _ | with_reducible assumption | with_reducible refine balloc ?_ _ | with_reducible refine bdrew ?_ | with_reducible refine below_drewN ?_ _ | with_reducible refine bset ?_ ?_ _ | with_reducible exact Nat.le_refl _ | with_reducible refine bsize ?_ | (dsimp only; refine Nat.le_trans ?_ (Nat.le_add_right _ _)) | with_reducible refine Nat.le_trans ?_ (Nat.le_add_right _ _) | (with_reducible refine bstep ?_ (by assumption))))) hzW)) ?_; rintro e w4 ⟨v4, rfl, hown4, hb4⟩; (obtain ⟨a4, c4, rfl⟩ := owns_shape hown4); (have hbel4 : Below wr.heap.size wr w4 := by (repeat (first | with_reducible exact Below.refl _ _ | with_reducible assumption | with_reducible refine balloc ?_ _ | with_reducible refine bdrew ?_ | with_reducible refine below_drewN ?_ _ | with_reducible refine bset ?_ ?_ _ | with_reducible exact Nat.le_refl _ | with_reducible refine bsize ?_ | (dsimp only; refine Nat.le_trans ?_ (Nat.le_add_right _ _)) | with_reducible refine Nat.le_trans ?_ (Nat.le_add_right _ _) | (with_reducible refine bstep ?_ (by assumption))))); (have hown4' : w4.ownsRow wr.heap.size 3 1 (.slice a4 ws.length c4) ws.length (cellsG fInt ws) := hown4)); (try go_wp2_with fail); refine hK.out _ _ (Or.inr (by simpa using (hbk.later hbel4).cell 0)) (fun hHeld => ?_); replace hHeld := hHeld.resolve_left (by decide); clear hK; clear K; (try simp only [Act.put, List.setIfInBounds_toArray, List.set_cons_zero, List.set_cons_succ]))
          have hb5 : Below w4.heap.size w4 (w4.alloc (.cells #[.slice a4 ws.length c4] 24)) := balloc (Below.refl _ _) _
          have hrw5 := (hrw.below hbel4).below hb5
          have hbk5 := (hbk.later hbel4).later hb5
          have hown5 := ownsRow_below hown4' hb5
          (refine wpAnyT_one (i := 6) (by kernel_rfl) (by rfl) (fun K hK => ?_); go_simp; skip; (try go_wp2_with fail); refine hK.out _ _ (Or.inr (by simpa using hbk5.cell 0)) (fun hHeld => ?_); replace hHeld := hHeld.resolve_left (by decide); clear hK; clear K; (try simp only [Act.put, List.setIfInBounds_toArray, List.set_cons_zero, List.set_cons_succ]))
          refine wpAnyT_one (i := 7) (by kernel_rfl) (by rfl) (fun K hK => ?_)
          refine step_append_own rfl (.tmp 32) (.tmp 35) 36 rfl w0.heap.size 24 i0 (.slice none 0 0) 1 24 Try.underlying36 hi hz0 hz1 hz2 rfl (by decide) v Z.length (Z.map Prod.fst) ?c6 hrw5.out ⟨w4.heap.size, 0, none⟩ 1 1 [.slice a4 ws.length c4] ?c7 rfl ?c1 ?c2 ?c3 ?c4 ?c5 ?_
          case c6 => simp [Act.eval, Act.put]
          case c7 => simp [Act.eval, Act.put]; done
          case c1 => (intro j u hj; rcases j with _ | j <;> simp at hj; subst hj; simp [go_sem]; done)
          case c2 => simp [Value.oneCell']
          case c3 => have := HZ.out; simp at this; unfold maxLen; omega
          case c4 => have := HZ.out; simp at this; omega
          case c5 => exact Nat.le_trans hzW (Nat.le_trans hbel.size (Nat.le_trans hbel4.size hb5.size))
          intro v6 w6 hown6 hgr6
          have hzz : w0.heap.size ≤ (w4.alloc (.cells #[.slice a4 ws.length c4] 24)).heap.size := Nat.le_trans hzW (Nat.le_trans hbel.size (Nat.le_trans hbel4.size hb5.size))
          have hlk6 : LkKeep w0.heap.size (some gg) (w4.alloc (.cells #[.slice a4 ws.length c4] 24)) w6 := LkKeep.grown hgr6 hrw5.out hzz
          have hbk6 : Blk gg #[v] 36 w6 := by
            refine (hgr6.block gg hbk5.lt (fun e => ?_)).trans hbk5
            exact neT hrw5.out hbk5 (by decide) e.symm
          have hin6 : InR w0.heap.size w6 (Z ++ [(.slice a4 ws.length c4, ws)]) := by
            have h1 := hrw5.inn.lk hlk6 (fun g e => by injection e with e; subst e; exact ⟨_, hbk5⟩)
            have h2 := hlk6.row hown5 (fun g e => by injection e with e; subst e; exact neT hown5 hbk5 (by decide))
            exact h1.snoc (own_mono h2 (Nat.le_trans hzW hbel.size)) (InR.new (fun p hp g e => hrw.inn.lt p hp g e) h2)
          refine hK.out _ _ (Or.inr (by simpa using hbk6.cell 0)) (fun hHeld => ?_)
          clear hK
          clear K
          (try simp only [Act.put, List.setIfInBounds_toArray, List.set_cons_zero, List.set_cons_succ])
          have c61 := hbk6.cell 0
          have z61 := hbk6.frozen 0
          simp at c61
          obtain ⟨av6, cv6, rfl⟩ := owns_shape hown6
          (refine wpAnyT_take (i := 8) (v := ?_) (by rfl) (by kernel_rfl) (by kernel_rfl) (by kernel_rfl) (by kernel_rfl) (fun _ _ _ h => h) (Or.inl ⟨by rfl, ?_⟩) (by assumption) ?_; rotate_left; (focus (intro w hSw; (try dsimp only at hSw); go_simp; (try with_reducible rfl))); (try simp only [Act.put, List.setIfInBounds_toArray, List.set_cons_zero, List.set_cons_succ]))
          refine wpAnyT_one (i := 9) (by kernel_rfl) (by rfl) (fun K hK => ?_)
          go_simp
          refine hK.out _ _ (Or.inl rfl) (fun _ => ?_)
          refine wpAnyT_done (by kernel_rfl) ?_ _
          refine NoPanic.normal ?_
          clear hK
          clear K
          go_upto_region 8 with fail
          refine (fun (h : ∀ V, V = _ → Code.wp _ _ _ _ V) => h _ rfl) ?_
          intro w5 hV5
          obtain ⟨v5, Z5, hb5, hr5, hl5, hm5, hk5⟩ : ∃ v5 Z5, Blk gg #[v5] 36 w5 ∧ RowsZ w0.heap.size w5 v5 (Z ++ Z5) ∧ Hid (Z5.length ≤ 1) ∧ Hid (Z5.map Prod.snd ++ (wsM k f ws).filter (fitL m cs) = (ws :: wsM k f ws).filter (fitL m cs)) ∧ LkKeep w0.heap.size (some gg) W w5 := by
            subst hV5
            refine ⟨_, [(.slice a4 ws.length c4, ws)], set_blk hbk6, ⟨?_, ?_⟩, Lib.hid (by simp), Lib.hid (by rw [HX2.out]; rfl), ?_⟩
            · rw [List.length_append, List.map_append]
              exact own_set (p := ⟨gg, 0, none⟩) hown6 (neT (b := gg) hown6 hbk6 (by decide)) _
            · exact hin6.lk (LkKeep.set w6 _ hgg) (fun g e => by injection e with e; subst e; exact ⟨_, hbk6⟩)
            · exact ((LkKeep.of hbel hzW).trans (LkKeep.of hbel4 (Nat.le_trans hzW hbel.size))).trans ((LkKeep.of hb5 (Nat.le_trans hzW (Nat.le_trans hbel.size hbel4.size))).trans (hlk6.trans (LkKeep.set w6 _ hgg)))
          clear hV5 hlk6 hbk6 hin6 hown6 hgr6 c61 z61 hown5 hbk5 hrw5
        all_goals
          go_wp2
          go_loopw [13] (fun x wr => ∃ (j : Nat) (v6 : Value) (Z6 : ZL), j ≤ k ∧ x = .int .i64 (f + j) ∧ Blk gg #[v6] 36 wr ∧ RowsZ w0.heap.size wr v6 (Z ++ Z6) ∧ Hid (Z6.map Prod.snd ++ (wsM (k - j) (f + j) ws).filter (fitL m cs) = (ws :: wsM k f ws).filter (fitL m cs)) ∧ Hid (Z6.length + (wsM (k - j) (f + j) ws).length ≤ (ws :: wsM k f ws).length) ∧ LkKeep w0.heap.size (some gg) W wr) (fun x _ => (m - intOf x).toNat)
          case atStart => exact ⟨0, v5, Z5, Nat.zero_le _, by simp, hb5, hr5, Lib.hid (by have := hm5.out; simpa using this), Lib.hid (by have := hl5.out; simp; omega), hk5⟩
          case round =>
            obtain ⟨j, v6, Z6, hj, rfl, hb6, hr6, hm6, hl6, hk6⟩ := hrel
            clear hb5 hr5 hm5 hl5 hk5
            by_cases hlt : j < k
            · have hfm : f + j < m := by omega
              go_wp2_with fail
              refine Calls.mono (HO.out _ hk6) ?_
              rintro e w7 ⟨v7, rfl, hown7, hb7⟩
              obtain ⟨a7, c7, rfl⟩ := owns_shape hown7
              have hsz7 := hb7.size
              go_wp2_with (at_builtin; refine wpList_append_own _ rfl _ _ 24 rfl wr.heap.size 3 j0 (.int .i64 0) 1 8 Try.underlying24 hj0 hy0 hy1 hy2 rfl (by decide) _ _ _ rfl (hown7.alloc _) ⟨w7.heap.size, 0, none⟩ 1 1 [.int .i64 (f + j)] ?c0 rfl ?c1 ?c2 ?c3 ?c4 ?c5 ?_)
              case c0 => simp [Act.eval, Act.put]
              case c1 => first | exact cell_one_new _ _ _ | (intro k u hk; match k, hk with | 0, hk => (simp at hk; subst hk; simp [go_sem]))
              case c2 => simp [Value.oneCell']
              case c3 => unfold maxLen; omega
              case c4 => omega
              case c5 => first | (simp; omega) | omega
              intro v8 w8 hown8' hgr8 _
              have hbel8 : Below wr.heap.size wr w8 := by
                refine (hb7.alloc hsz7 _).grown hgr8 ?_ (fun g e => own_block hown7 e)
                simp; omega
              have hown8 : w8.ownsRow wr.heap.size 3 1 v8 (ws ++ [f + (j : Int)]).length (cellsG fInt (ws ++ [f + (j : Int)])) := by
                rw [List.length_append, cellsG_append]; exact hown8'
              clear hown8' hgr8 hown7 hb7
              have hzr : w0.heap.size ≤ wr.heap.size := Nat.le_trans hzW hk6.size
              have hls := Lib.hid (show (wsM (k - j) (f + j) ws) = (ws ++ [f + (j : Int)]) :: wsM (k - j - 1) (f + j + 1) (ws ++ [f + (j : Int)]) ++ wsM (k - j - 1) (f + j + 1) ws by
                rw [show k - j = k - j - 1 + 1 by omega]; exact wsM_succ _ _ _)
              have hlen : Hid ((Z ++ Z6).length + ((ws ++ [f + (j : Int)]) :: wsM (k - j - 1) (f + j + 1) (ws ++ [f + (j : Int)])).length ≤ 1024) := by
                refine Lib.hid ?_
                have h1 := hl6.out
                have h2 := HZ.out
                rw [hls.out, List.length_append] at h1
                rw [List.length_append]
                omega
              go_wp2_with fail
              refine Calls.mono (IH.out (k - j - 1) (by omega) (f + j + 1) (ws ++ [f + (j : Int)]) v8 (by omega) (by omega) (ris_snoc (by omega) (risB_top (by omega) HRI.out)) w8 v6 (Z ++ Z6) ((HW.out.trans hk6.below).trans (hbel8.mono hzr)) (hb6.later hbel8) (hr6.below hbel8) (own_mono hown8 hzr) hlen.out) ?_
              rintro e w9 ⟨rfl, v9, Z9, hb9, hr9, hm9, hk9⟩
              go_wp2
              go_roundw
              case rel =>
                refine ⟨j + 1, v9, Z6 ++ Z9, by omega, by go_num, hb9, by rw [← List.append_assoc]; exact hr9, Lib.hid ?_, Lib.hid ?_, hk6.trans ((LkKeep.of hbel8 hzr).trans hk9)⟩
                · have h1 := hm6.out
                  rw [hls.out, List.filter_append] at h1
                  rw [← h1, List.map_append, hm9.out, List.append_assoc, show k - (j + 1) = k - j - 1 by omega, show f + ((j + 1 : Nat) : Int) = f + j + 1 by omega]
                · have h1 := hl6.out
                  have h2 := congrArg List.length hm9.out
                  rw [List.length_map] at h2
                  have h3 := List.length_filter_le (fitL m cs) ((ws ++ [f + (j : Int)]) :: wsM (k - j - 1) (f + j + 1) (ws ++ [f + (j : Int)]))
                  rw [hls.out, List.length_append] at h1
                  rw [List.length_append, show k - (j + 1) = k - j - 1 by omega, show f + ((j + 1 : Nat) : Int) = f + j + 1 by omega]
                  omega
              case measure => simp [intOf]; omega
            · have hjk : j = k := by omega
              go_wp2
              go_end0
              refine ⟨rfl, v6, Z6, hb6, hr6, Lib.hid ?_, hk6⟩
              have h1 := hm6.out
              rw [hjk, Nat.sub_self, wsM_0] at h1
              simpa using h1
end Go.Proofs.Ytiafmojmanhdoaa

/- IsPuzzle and IsClue, of the program and of the model. -/
namespace Go.Proofs.Ytiafmojmanhdoaa
open Go.ChangeShapes Go.WideShapes Go.ChangeAt Go.RowKit Go.Joins
set_option maxRecDepth 100000
set_option linter.unusedVariables false
set_option linter.unusedSimpArgs false


set_option maxHeartbeats 1600000 in
theorem isPz_impl (m : Int) (bm : (-9223372036854775808 ≤ m ∧ m ≤ 9223372036854775807)) (v : Value) (l : List ClueV) (w : World) (h : RowG 3 fClue w v l) :
    Calls Try.prog 79 #[.agg #[.int .i64 m, v]] w fun e w' => e = .returned (.bool (pzB m l)) ∧ Below w.heap.size w w' := by
  have HT := Lib.hid (fun W (hB : Below w.heap.size w W) => trials_impl m bm v l W (rowG_below h hB))
  obtain ⟨a0, c0, rfl, hl1, hl2⟩ := row_shape h
  clear h
  obtain ⟨R, hR⟩ : ∃ R, pzB m l = R := ⟨_, rfl⟩
  rw [hR]
  go_enter Try.func79, Try.ntmps79
  go_wp2_with fail
  refine (HT.out _ (by (repeat (first | with_reducible exact Below.refl _ _ | with_reducible assumption | with_reducible refine balloc ?_ _ | with_reducible refine bdrew ?_ | with_reducible refine below_drewN ?_ _ | with_reducible refine bset ?_ ?_ _ | with_reducible exact Nat.le_refl _ | with_reducible refine bsize ?_ | (dsimp only; refine Nat.le_trans ?_ (Nat.le_add_right _ _)) | with_reducible refine Nat.le_trans ?_ (Nat.le_add_right _ _) | (with_reducible refine bstep ?_ (by assumption)))))).mono ?_
  rintro e w1 ⟨v1, rfl, hb1, _, _⟩
  rw [hR]
  clear hR
  go_wp2
  go_ret
  refine ⟨rfl, ?_⟩
  (repeat (first | with_reducible exact Below.refl _ _ | with_reducible assumption | with_reducible refine balloc ?_ _ | with_reducible refine bdrew ?_ | with_reducible refine below_drewN ?_ _ | with_reducible refine bset ?_ ?_ _ | with_reducible exact Nat.le_refl _ | with_reducible refine bsize ?_ | (dsimp only; refine Nat.le_trans ?_ (Nat.le_add_right _ _)) | with_reducible refine Nat.le_trans ?_ (Nat.le_add_right _ _) | (with_reducible refine bstep ?_ (by assumption))))
/-- Is it a clue? -/
def clueB (m k a b : Int) : Bool := miB m && clB m k a b
theorem pzB_one (m k a b : Int) : pzB m [⟨k, a, b⟩] = clueB m k a b := by
  simp [pzB, clueB, clP]
set_option maxHeartbeats 1600000 in
theorem isCl_impl (m k a b : Int) (bm : (-9223372036854775808 ≤ m ∧ m ≤ 9223372036854775807)) (bk : (-9223372036854775808 ≤ k ∧ k ≤ 9223372036854775807)) (ba : (-9223372036854775808 ≤ a ∧ a ≤ 9223372036854775807)) (bb : (-9223372036854775808 ≤ b ∧ b ≤ 9223372036854775807)) (w : World) :
    Calls Try.prog 53 #[.int .i64 m, .agg #[.int .i64 k, .int .i64 a, .int .i64 b]] w fun e w' => e = .returned (.bool (clueB m k a b)) ∧ Below w.heap.size w w' := by
  have HP := Lib.hid (fun W g (h0 : W.cell? ⟨g, 0, none⟩ = some (.int .i64 k)) (h1 : W.cell? ⟨g, 1, none⟩ = some (.int .i64 a)) (h2 : W.cell? ⟨g, 2, none⟩ = some (.int .i64 b)) =>
    isPz_impl m bm (.slice (some ⟨g, 0, none⟩) 1 1) [⟨k, a, b⟩] W (Or.inr ⟨_, _, rfl, by
      refine ⟨by simp, by simp, fun i p hp j z hz => ?_, fun p hp z hz => ?_⟩
      · have hi : i = 0 := by
          rcases i with _ | i
          · rfl
          · simp at hp
        subst hi
        simp at hp
        subst hp
        rcases j with _ | _ | _ | j
        · simp [fClue] at hz; subst hz; simpa [Addr.add] using h0
        · simp [fClue] at hz; subst hz; simpa [Addr.add] using h1
        · simp [fClue] at hz; subst hz; simpa [Addr.add] using h2
        · simp [fClue] at hz
      · simp at hp
        subst hp
        simp [fClue] at hz
        rcases hz with rfl | rfl | rfl
        · exact bk
        · exact ba
        · exact bb⟩))
  rw [← pzB_one]
  generalize pzB m [⟨k, a, b⟩] = R at *
  go_enter Try.func53, Try.ntmps53
  go_wp2_with fail
  refine (HP.out _ (w.heap.size + 1) (by simp [go_sem]) (by simp [go_sem]) (by simp [go_sem])).mono ?_
  rintro e w1 ⟨rfl, hb1⟩
  go_wp2
  go_ret
  refine ⟨rfl, ?_⟩
  (repeat (first | with_reducible exact Below.refl _ _ | with_reducible assumption | with_reducible refine balloc ?_ _ | with_reducible refine bdrew ?_ | with_reducible refine below_drewN ?_ _ | with_reducible refine bset ?_ ?_ _ | with_reducible exact Nat.le_refl _ | with_reducible refine bsize ?_ | (dsimp only; refine Nat.le_trans ?_ (Nat.le_add_right _ _)) | with_reducible refine Nat.le_trans ?_ (Nat.le_add_right _ _) | (with_reducible refine bstep ?_ (by assumption))))
end Go.Proofs.Ytiafmojmanhdoaa

/- Puzzles: all solutions, of the model; what both sides answer of them. -/
namespace Go.Proofs.Ytiafmojmanhdoaa
open Go.ChangeShapes Go.WideShapes Go.ChangeAt Go.RowKit Go.Joins
set_option maxRecDepth 100000
set_option linter.unusedVariables false
set_option linter.unusedSimpArgs false

def soL (m : Int) (cs : List ClueV) : List (List Int) := if pzB m cs = true then solL m cs else []
/-- Lists that a call owns, told alone. -/
def EndZ (L : List (List Int)) (w : World) (e : Ending) (w' : World) : Prop :=
  ∃ v Z, e = .returned v ∧ RowsZ w.heap.size w' v Z ∧ Hid (Z.map Prod.snd = L) ∧ Below w.heap.size w w'
/-- Lists that a call owns, and a bool. -/
def AnsZ (L : List (List Int)) (b : Bool) (w : World) (e : Ending) (w' : World) : Prop :=
  ∃ v Z, e = .returned (.tuple #[v, .bool b]) ∧ RowsZ w.heap.size w' v Z ∧ Hid (Z.map Prod.snd = L) ∧ Below w.heap.size w w'
theorem wsM_le {m : Int} (h : m ≤ 10) : ([] : ZL).length + (([] : List Int) :: wsM (m - 1).toNat 1 []).length ≤ 1024 := by
  have h1 := wsM_len (m - 1).toNat 1 []
  have h2 : (2 : Nat) ^ (m - 1).toNat ≤ 2 ^ 9 := Nat.pow_le_pow_right (by omega) (by omega)
  have h3 : (2 : Nat) ^ 9 = 512 := by decide
  simp only [List.length_nil, List.length_cons]
  omega
set_option maxHeartbeats 3200000 in
theorem all_spec9 (m : Int) (m1 : 1 ≤ m) (m2 : m ≤ 10) (v : Value) (cs : List ClueV) (hcs : ∀ p ∈ cs, clP m p = true) (w : World) (h : RowG 3 fClue w v cs) :
    Calls Try.prog 58 #[.int .i64 m, v] w (EndZ (solL m cs) w) := by
  obtain ⟨a0, c0, rfl, hl1, hl2, hC⟩ := clues_of h
  have HL := Lib.hid (fun (W : World) (hB : Below w.heap.size w W) (hk : Blk w.heap.size #[.slice none 0 0] 36 W) => look_spec m m1 m2 a0 c0 cs.length cs rfl hcs hl1 hl2 w hC w.heap.size (Nat.le_refl _) (m - 1).toNat 1 [] (.slice none 0 0) (by omega) (by omega) rfl W (.slice none 0 0) [] hB hk (RowsZ.nil _ _) (World.ownsRow_nil _ _ _ _) (wsM_le m2))
  have eL : solL m cs = ([] :: wsM (m - 1).toNat 1 []).filter (fitL m cs) := by rw [solL, wsA_eq]
  rw [eL]
  clear h hC eL
  generalize ([] :: wsM (m - 1).toNat 1 []).filter (fitL m cs) = X at *
  go_enter Try.func58, Try.ntmps58
  go_wp2_with fail
  refine Calls.mono (HL.out _ (by (repeat (first | with_reducible exact Below.refl _ _ | with_reducible assumption | with_reducible refine balloc ?_ _ | with_reducible refine bdrew ?_ | with_reducible refine below_drewN ?_ _ | with_reducible refine bset ?_ ?_ _ | with_reducible exact Nat.le_refl _ | with_reducible refine bsize ?_ | (dsimp only; refine Nat.le_trans ?_ (Nat.le_add_right _ _)) | with_reducible refine Nat.le_trans ?_ (Nat.le_add_right _ _) | (with_reducible refine bstep ?_ (by assumption))))) (Blk.new w _ _)) ?_
  rintro e w1 ⟨rfl, v1, Z1, hb1, hr1, hm1, hk1⟩
  rw [List.nil_append] at hr1
  have c1 := hb1.cell 0
  simp at c1
  have hbw : Below w.heap.size w w1 := Below.trans (by (repeat (first | with_reducible exact Below.refl _ _ | with_reducible assumption | with_reducible refine balloc ?_ _ | with_reducible refine bdrew ?_ | with_reducible refine below_drewN ?_ _ | with_reducible refine bset ?_ ?_ _ | with_reducible exact Nat.le_refl _ | with_reducible refine bsize ?_ | (dsimp only; refine Nat.le_trans ?_ (Nat.le_add_right _ _)) | with_reducible refine Nat.le_trans ?_ (Nat.le_add_right _ _) | (with_reducible refine bstep ?_ (by assumption))))) hk1.below
  obtain ⟨va, vc, hv⟩ := owns_shape hr1.out
  obtain ⟨n1, hn1⟩ : ∃ n, Z1.length = n := ⟨_, rfl⟩
  rw [hn1] at hv
  subst hv
  clear hn1 hk1 hb1
  go_wp2
  go_ret
  exact ⟨_, Z1, rfl, hr1, hm1, hbw⟩
/-- One cell of a puzzle's box, and the other. -/
theorem pz_box {w w1 : World} {m : Int} {v : Value} {t : TypeId} (hb : Below (w.heap.size + 1) (w.alloc (.cells #[.int .i64 m, v] t)) w1) : w1.cell? ⟨w.heap.size, 0, none⟩ = some (.int .i64 m) ∧ w1.cell? ⟨w.heap.size, 1, none⟩ = some v ∧ w.heap.size < w1.heap.size := by
  have h := (Blk.new w #[.int .i64 m, v] t)
  have h2 : Blk w.heap.size #[.int .i64 m, v] t w1 := (hb.block w.heap.size (by omega)).trans h
  exact ⟨by simpa using h2.cell 0, by simpa using h2.cell 1, h2.lt⟩
end Go.Proofs.Ytiafmojmanhdoaa

/- Puzzles: lists sifted clue by clue, of the program. -/
namespace Go.Proofs.Ytiafmojmanhdoaa
open Go.ChangeShapes Go.WideShapes Go.ChangeAt Go.RowKit Go.Joins
set_option maxRecDepth 100000
set_option linter.unusedVariables false
set_option linter.unusedSimpArgs false

/-- What is kept of older blocks that are no rows of lists. -/
structure TyKeep (B : Nat) (W w' : World) : Prop where
  size : W.heap.size ≤ w'.heap.size
  typ : ∀ b cs e fz, b < B → W.heap[b]? = some (.cells cs e fz) → e ≠ 24 → w'.heap[b]? = some (.cells cs e fz)
theorem TyKeep.refl (B : Nat) (W : World) : TyKeep B W W := ⟨Nat.le_refl _, fun _ _ _ _ _ h _ => h⟩
theorem TyKeep.trans {B : Nat} {a b c : World} (h : TyKeep B a b) (k : TyKeep B b c) : TyKeep B a c :=
  ⟨Nat.le_trans h.size k.size, fun i cs e fz hi h1 h2 => k.typ i cs e fz hi (h.typ i cs e fz hi h1 h2) h2⟩
theorem TyKeep.lk {B h0 : Nat} {W w' : World} (h : LkKeep h0 none W w') : TyKeep B W w' := ⟨h.size, fun b cs e fz _ h1 h2 => h.typ b cs e fz h1 h2 (by simp)⟩
theorem TyKeep.grown {B : Nat} {W w' : World} {v : Value} {e size n : Nat} {xs : List Value} (hg : W.grownBy w' v.ownBlock) (ho : W.ownsRow B e size v n xs) : TyKeep B W w' :=
  ⟨hg.size, fun b cs e fz hb h1 _ => by rw [hg.block b (Array.getElem?_eq_some_iff.1 h1).1 (fun e2 => by have := own_block ho e2.symm; omega)]; exact h1⟩
theorem TyKeep.row {B : Nat} {W w' : World} (h : TyKeep B W w') (hB : W.heap.size ≤ B) {base e n : Nat} {v : Value} {xs : List Value} (ho : W.ownsRow base e 1 v n xs) (he : e ≠ 24) : w'.ownsRow base e 1 v n xs := by
  refine ⟨ho.1, ?_⟩
  rcases ho.2 with h1 | ⟨g', cap, cur, rfl, hb, hc, rest⟩
  · exact Or.inl h1
  · exact Or.inr ⟨g', cap, cur, rfl, hb, h.typ g' cur e (0, 0) (Nat.lt_of_lt_of_le (Array.getElem?_eq_some_iff.1 hc).1 hB) hc he, rest⟩
theorem TrialAt.ty {B : Nat} {m : Int} {p : ClueV} {u : Value} {W W' : World} (h : TrialAt m p u W) (hk : TyKeep B W W') (hB : W.heap.size ≤ B) : TrialAt m p u W' := by
  obtain ⟨b, bm, h1, h2, e⟩ := h
  exact ⟨b, bm, hk.typ b _ _ _ (Nat.lt_of_lt_of_le h1.lt hB) h1 (by decide), hk.typ bm _ _ _ (Nat.lt_of_lt_of_le h2.lt hB) h2 (by decide), e⟩
/-- How many are left behind each clue. -/
def lfP (m : Int) (cs : List ClueV) (k : Nat) : List Int := (List.range k).map (fun j => ((solL m (cs.take j)).length : Int))
theorem lfP_len (m : Int) (cs : List ClueV) (k : Nat) : (lfP m cs k).length = k := by simp [lfP]
theorem lfP_succ (m : Int) (cs : List ClueV) (k : Nat) : lfP m cs (k + 1) = lfP m cs k ++ [((solL m (cs.take k)).length : Int)] := by simp [lfP, List.range_succ]
def lfL (m : Int) (cs : List ClueV) : List Int := if pzB m cs = true then lfP m cs (cs.length + 1) else []
theorem TyKeep.of {B : Nat} {W w' : World} (h : Below W.heap.size W w') : TyKeep B W w' := ⟨h.size, fun b cs e fz _ h1 _ => by rw [h.block b (Array.getElem?_eq_some_iff.1 h1).1]; exact h1⟩
theorem rows_far {W : World} {b1 b2 e1 e2 m1 m2 n1 n2 : Nat} {v1 v2 : Value} {x1 x2 : List Value} (h1 : W.ownsRow b1 e1 m1 v1 n1 x1) (h2 : W.ownsRow b2 e2 m2 v2 n2 x2) (he : e1 ≠ e2) : v1.ownBlock = none ∨ v1.ownBlock ≠ v2.ownBlock := by
  rcases h1.2 with ⟨rfl, _⟩ | ⟨g, cap, cur, rfl, _, hg, _⟩
  · exact Or.inl rfl
  · exact Or.inr (fun e => neT h2 hg he e.symm)
theorem filterZ (m : Int) (p : ClueV) (Z : ZL) : (Z.filter (fitZ m p)).map Prod.snd = (Z.map Prod.snd).filter (fitB m p) := by
  rw [List.filter_map]; rfl
theorem solL_take {m : Int} {cs : List ClueV} {k : Nat} {p : ClueV} (hp : cs[k]? = some p) : solL m (cs.take (k + 1)) = (solL m (cs.take k)).filter (fitB m p) := by
  rw [List.take_add_one, hp]; exact solL_snoc ..
/-- How sift ends. -/
def EndSf (m : Int) (cs : List ClueV) (w : World) (e : Ending) (w' : World) : Prop :=
  ∃ v s Z, e = .returned (.tuple #[v, s, .bool (pzB m cs)]) ∧ RowsZ w.heap.size w' v Z ∧ Hid (Z.map Prod.snd = soL m cs) ∧ w'.ownsRow w.heap.size 3 1 s (lfL m cs).length (cellsG fInt (lfL m cs)) ∧ Below w.heap.size w w'
set_option maxHeartbeats 6400000 in
theorem sift_impl (m : Int) (bm : (-9223372036854775808 ≤ m ∧ m ≤ 9223372036854775807)) (v : Value) (cs : List ClueV) (w : World) (h : RowG 3 fClue w v cs) :
    Calls Try.prog 60 #[.agg #[.int .i64 m, v]] w (EndSf m cs w) := by
  have hmf : ∀ (fn : Fn) (first cap : Array Value) (w : World), (Instr.makeFunc fn first cap).run Try.prog w = .ok (.func fn first cap) w := fun _ _ _ _ => rfl
  obtain ⟨j0, hj0, hy0, hy1, hy2⟩ := info_parts infoInt
  have HT := Lib.hid (fun W (hB : Below w.heap.size w W) => trials_impl m bm v cs W (rowG_below h hB))
  obtain ⟨a0, c0, rfl, hl1, hl2⟩ := row_shape h
  clear h
  cases hp : pzB m cs
  · have e1 : soL m cs = [] := by simp [soL, hp]
    have e2 : lfL m cs = [] := by simp [lfL, hp]
    have HP := Lib.hid hp
    unfold EndSf
    rw [e1, e2, hp]
    clear e1 e2 hp
    go_enter Try.func60, Try.ntmps60
    go_wp2_with fail
    refine Calls.mono (HT.out _ (by (repeat (first | with_reducible exact Below.refl _ _ | with_reducible assumption | with_reducible refine balloc ?_ _ | with_reducible refine bdrew ?_ | with_reducible refine below_drewN ?_ _ | with_reducible refine bset ?_ ?_ _ | with_reducible exact Nat.le_refl _ | with_reducible refine bsize ?_ | (dsimp only; refine Nat.le_trans ?_ (Nat.le_add_right _ _)) | with_reducible refine Nat.le_trans ?_ (Nat.le_add_right _ _) | (with_reducible refine bstep ?_ (by assumption)))))) ?_
    rintro e w1 ⟨tv, rfl, hb1, _, hno⟩
    rw [HP.out]
    obtain rfl := hno HP.out
    clear hno
    go_wp2
    refine bodyPost_ret (v := .tuple #[.slice none 0 0, .slice none 0 0, .bool false]) (by simp only [results, Try.results60]; go_simp) rfl ?_
    exact ⟨_, _, [], rfl, RowsZ.nil _ _, Lib.hid rfl, World.ownsRow_nil _ _ _ _, by (repeat (first | with_reducible exact Below.refl _ _ | with_reducible assumption | with_reducible refine balloc ?_ _ | with_reducible refine bdrew ?_ | with_reducible refine below_drewN ?_ _ | with_reducible refine bset ?_ ?_ _ | with_reducible exact Nat.le_refl _ | with_reducible refine bsize ?_ | (dsimp only; refine Nat.le_trans ?_ (Nat.le_add_right _ _)) | with_reducible refine Nat.le_trans ?_ (Nat.le_add_right _ _) | (with_reducible refine bstep ?_ (by assumption))))⟩
  · obtain ⟨hm, h8, hcl⟩ := pzB_yes hp
    have hm12 := miB_yes hm
    have e1 : soL m cs = solL m cs := by simp [soL, hp]
    have e2 : lfL m cs = lfP m cs (cs.length + 1) := by simp [lfL, hp]
    have HP := Lib.hid hp
    obtain ⟨n, hn⟩ : ∃ n, cs.length = n := ⟨_, rfl⟩
    have HN := Lib.hid hn
    unfold EndSf
    rw [e1, e2, hp, hn]
    rw [hn] at h8 hl1 HT
    have HCL := Lib.hid hcl
    clear e1 e2 hp hcl hm hn
    go_enter Try.func60, Try.ntmps60
    go_wp2_with fail
    refine Calls.mono (HT.out _ (by (repeat (first | with_reducible exact Below.refl _ _ | with_reducible assumption | with_reducible refine balloc ?_ _ | with_reducible refine bdrew ?_ | with_reducible refine below_drewN ?_ _ | with_reducible refine bset ?_ ?_ _ | with_reducible exact Nat.le_refl _ | with_reducible refine bsize ?_ | (dsimp only; refine Nat.le_trans ?_ (Nat.le_add_right _ _)) | with_reducible refine Nat.le_trans ?_ (Nat.le_add_right _ _) | (with_reducible refine bstep ?_ (by assumption)))))) ?_
    rintro e w1 ⟨tv, rfl, hb1, hyes, _⟩
    rw [HP.out]
    obtain ⟨vs, hown1, htr⟩ := hyes HP.out
    have hbw1 : Below w.heap.size w w1 := by (repeat (first | with_reducible exact Below.refl _ _ | with_reducible assumption | with_reducible refine balloc ?_ _ | with_reducible refine bdrew ?_ | with_reducible refine below_drewN ?_ _ | with_reducible refine bset ?_ ?_ _ | with_reducible exact Nat.le_refl _ | with_reducible refine bsize ?_ | (dsimp only; refine Nat.le_trans ?_ (Nat.le_add_right _ _)) | with_reducible refine Nat.le_trans ?_ (Nat.le_add_right _ _) | (with_reducible refine bstep ?_ (by assumption))))
    have hbx1 : Blk w.heap.size #[.int .i64 m, .slice a0 n c0] 41 w1 := (Blk.new w _ _).later hb1
    rw [HN.out] at hown1
    have HTR := Lib.hid htr
    obtain ⟨ta, tc, rfl⟩ := owns_shape hown1
    have HO1 := Lib.hid hown1
    clear hyes htr hown1 hb1 HT
    have hx0 := hbx1.cell 0
    simp at hx0
    go_wp2_with fail
    refine Calls.mono (add_impl m hm12.1 hm12.2 w.heap.size (m - 1).toNat 1 [] (.slice none 0 0) (by omega) (by omega) rfl w1 (.slice none 0 0) [] hbw1.size (RowsZ.nil _ _) (World.ownsRow_nil _ _ _ _) (by simp) (wsM_le hm12.2)) ?_
    rintro e w2 ⟨v2, Z2, rfl, hr2, hm2, hk2⟩
    rw [List.nil_append] at hr2
    have hs2 : Hid (Z2.map Prod.snd = solL m (cs.take 0)) := Lib.hid (by rw [hm2.out, List.take_zero, solL_nil, wsA_eq])
    have hbw2 : Below w.heap.size w w2 := hbw1.trans hk2.below
    have hty2 : TyKeep w1.heap.size w1 w2 := TyKeep.lk hk2
    clear hm2 hk2 hx0
    obtain ⟨v2a, v2c, hv2⟩ := owns_shape hr2.out
    obtain ⟨n2, hn2⟩ : ∃ n, Z2.length = n := ⟨_, rfl⟩
    rw [hn2] at hv2
    subst hv2
    have HO2 := Lib.hid (hty2.row (Nat.le_refl _) HO1.out (by decide))
    have HTR2 := Lib.hid (fun (k : Nat) (p : ClueV) (hp : cs[k]? = some p) => (show ∃ u, vs[k]? = some u ∧ TrialAt m p u w2 from by
      obtain ⟨u, h1, h2⟩ := HTR.out k p hp
      exact ⟨u, h1, h2.ty hty2 (Nat.le_refl _)⟩))
    have hlt2 : Hid (∀ p ∈ Z2, ∀ g, p.1.ownBlock = some g → g < w2.heap.size) := Lib.hid hr2.inn.lt
    have hn2b : n2 ≤ 512 := by
      have h1 := congrArg List.length hs2.out
      rw [List.length_map, hn2] at h1
      have := solL_len hm12.2 (cs.take 0)
      omega
    have hl2v := Lib.hid (show lfP m cs 1 = [(n2 : Int)] by
      have h1 := congrArg List.length hs2.out
      rw [List.length_map, hn2] at h1
      simp only [lfP, List.range_one, List.map_cons, List.map_nil, ← h1])
    clear HTR HO1 hty2 hn2
    go_wp2_with (at_builtin; refine wpList_append_own _ rfl _ _ 24 rfl w2.heap.size 3 j0 (.int .i64 0) 1 8 Try.underlying24 hj0 hy0 hy1 hy2 rfl (by decide) (.slice none 0 0) 0 [] rfl (World.ownsRow_nil _ _ _ _) ⟨w2.heap.size, 0, none⟩ 1 1 [.int .i64 (n2 : Int)] ?c0 rfl ?c1 ?c2 ?c3 ?c4 ?c5 ?_)
    case c0 => simp [Act.eval, Act.put]
    case c1 => first | exact cell_one_new _ _ _ | (intro k u hk; match k, hk with | 0, hk => (simp at hk; subst hk; simp [go_sem]))
    case c2 => simp [Value.oneCell']
    case c3 => unfold maxLen; omega
    case c4 => omega
    case c5 => simp
    intro s3 w3 hown3 hgr3 _
    have hbel3 : Below w2.heap.size w2 w3 := by
      refine (balloc (Below.refl _ _) _).grown hgr3 (by simp) (fun g e => by simp [Value.ownBlock] at e)
    have hown3' : w3.ownsRow w2.heap.size 3 1 s3 1 (cellsG fInt (lfP m cs 1)) := by rw [hl2v.out]; exact hown3
    have hr3 := hr2.below hbel3
    have hbw3 := hbw2.trans (hbel3.mono hbw2.size)
    have hty3 : TyKeep w2.heap.size w2 w3 := TyKeep.of hbel3
    clear hown3 hgr3 hr2 hl2v hbel3
    obtain ⟨s3a, s3c, hs3⟩ := owns_shape hown3'
    subst hs3
    have hzw2 := hbw2.size
    go_wp2
    go_loopw [3, 6, 26] (fun s l i wr => ∃ (k : Nat) (v6 s6 : Value) (Z6 : ZL), k ≤ n ∧ i = .int .i64 k ∧ v6 = l ∧ s6 = s ∧ RowsZ w.heap.size wr v6 Z6 ∧ Hid (Z6.map Prod.snd = solL m (cs.take k)) ∧ Hid (∀ p ∈ Z6, ∀ g, p.1.ownBlock = some g → g < w2.heap.size) ∧ wr.ownsRow w2.heap.size 3 1 s6 (k + 1) (cellsG fInt (lfP m cs (k + 1))) ∧ TyKeep w2.heap.size w2 wr ∧ Below w.heap.size w wr) (fun _ _ i _ => n - (intOf i).toNat)
    case atStart => exact ⟨0, _, _, Z2, Nat.zero_le _, rfl, rfl, rfl, hr3, hs2, hlt2, hown3', hty3, hbw3⟩
    case round =>
      obtain ⟨k, v6, s6, Z6, hk, rfl, rfl, rfl, hr6, hs6, hlt6, hown6, hty6, hbw6⟩ := hrel
      clear hr3 hs2 hlt2 hown3' hty3 hbw3 hbw2 hbw1 hbx1
      obtain ⟨v6a, v6c, hv6⟩ := owns_shape hr6.out
      obtain ⟨n6, hn6⟩ : ∃ n, Z6.length = n := ⟨_, rfl⟩
      have HN6 := Lib.hid hn6
      rw [hn6] at hv6
      subst hv6
      obtain ⟨s6a, s6c, rfl⟩ := owns_shape hown6
      have HR6 := Lib.hid hr6
      clear hr6 hn6
      by_cases hlt : k < n
      · obtain ⟨p, hp⟩ : ∃ p, cs[k]? = some p := ⟨_, List.getElem?_eq_getElem (by rw [HN.out]; exact hlt)⟩
        obtain ⟨u, hu, htu⟩ := HTR2.out k p hp
        have hO6 := hty6.row (Nat.le_refl _) HO2.out (by decide)
        obtain ⟨ad, rfl⟩ : ∃ ad, ta = some ad := by
          cases ta with
          | none => have := ((own_addr hO6).1 rfl).1; omega
          | some ad => exact ⟨ad, rfl⟩
        have e0 := (own_addr hO6).2.2.2 ad rfl k u hu
        have htu6 := Lib.hid (htu.ty hty6 (Nat.le_refl _))
        have HST := Lib.hid (solL_take (m := m) hp)
        have HPC := Lib.hid (HCL.out p (List.mem_of_getElem? hp))
        obtain ⟨uf, ucs, rfl⟩ := htu.shape
        clear hp hu htu hO6
        go_upto_region 9 with fail
        refine (fun (h : ∀ V, V = _ → Code.wp _ _ _ _ V) => h _ rfl) ?_
        intro w8 hV8
        have hb8 : Below wr.heap.size wr w8 := by rw [hV8]; (repeat (first | with_reducible exact Below.refl _ _ | with_reducible assumption | with_reducible refine balloc ?_ _ | with_reducible refine bdrew ?_ | with_reducible refine below_drewN ?_ _ | with_reducible refine bset ?_ ?_ _ | with_reducible exact Nat.le_refl _ | with_reducible refine bsize ?_ | (dsimp only; refine Nat.le_trans ?_ (Nat.le_add_right _ _)) | with_reducible refine Nat.le_trans ?_ (Nat.le_add_right _ _) | (with_reducible refine bstep ?_ (by assumption))))
        have hbk8 : Blk wr.heap.size #[.func (.func uf) #[] ucs] 64 w8 := by rw [hV8]; first | exact Blk.new wr _ _ | exact set_blk (Blk.new wr _ _) | (unfold Blk; simp [go_sem, World.setCell])
        clear hV8 e0
        have hgg : wr.heap.size = wr.heap.size := rfl
        have HD := Lib.hid (del_impl m p hm12.1 hm12.2 HPC.out wr.heap.size _ v6a v6c w.heap.size Z6 (fun q hq => solL_ris (cs := cs.take k) hm12.1 (by rw [← hs6.out]; exact List.mem_map_of_mem hq)) w8 (Nat.le_trans hbw6.size hb8.size) (by have h := HR6.out.below hb8; rw [HN6.out]; exact h) hbk8 (htu6.out.later hb8))
        rw [HN6.out] at HD
        have hown8 := ownsRow_below hown6 hb8
        have hty8 := hty6.trans (TyKeep.of hb8)
        have hbw8 := hbw6.trans (hb8.mono hbw6.size)
        clear hbk8 hown6 hty6 hb8 hgg
        go_wp2_with fail
        refine Calls.mono HD.out ?_
        rintro e w4 ⟨v4, rfl, hr4, hk4⟩
        have hown4 := hk4.row hown8 (fun g e => by cases e)
        have hty4 := hty8.trans (TyKeep.lk (B := w2.heap.size) hk4)
        have hbw4 := hbw8.trans hk4.below
        obtain ⟨v4a, v4c, hv4⟩ := owns_shape hr4.out
        obtain ⟨n4, hn4⟩ : ∃ n, (Z6.filter (fitZ m p)).length = n := ⟨_, rfl⟩
        rw [hn4] at hv4
        subst hv4
        have hs4 : Hid ((Z6.filter (fitZ m p)).map Prod.snd = solL m (cs.take (k + 1))) := Lib.hid (by rw [filterZ, hs6.out, HST.out])
        have hn4b : n4 ≤ 512 := by
          have h1 := congrArg List.length hs4.out
          rw [List.length_map, hn4] at h1
          have := solL_len hm12.2 (cs.take (k + 1))
          omega
        have hlf := Lib.hid (show lfP m cs (k + 1 + 1) = lfP m cs (k + 1) ++ [(n4 : Int)] by
          have h1 := congrArg List.length hs4.out
          rw [List.length_map, hn4] at h1
          rw [lfP_succ, ← h1])
        have hlt4 : Hid (∀ p' ∈ Z6.filter (fitZ m p), ∀ g, p'.1.ownBlock = some g → g < w2.heap.size) := Lib.hid (fun p' hp' g e => hlt6.out p' (List.mem_filter.1 hp').1 g e)
        clear HD hown8 hty8 hbw8 hk4 HST hs6 hlt6 htu6 hn4
        have HR4 := Lib.hid hr4
        clear hr4
        have hz4 : w2.heap.size ≤ w4.heap.size := hty4.size
        go_wp2_with (at_builtin; refine wpList_append_own _ rfl _ _ 24 rfl w2.heap.size 3 j0 (.int .i64 0) 1 8 Try.underlying24 hj0 hy0 hy1 hy2 rfl (by decide) (.slice s6a (k + 1) s6c) (k + 1) (cellsG fInt (lfP m cs (k + 1))) rfl (hown4.alloc _) ⟨w4.heap.size, 0, none⟩ 1 1 [.int .i64 (n4 : Int)] ?c0 rfl ?c1 ?c2 ?c3 ?c4 ?c5 ?_)
        case c0 => simp [Act.eval, Act.put]
        case c1 => first | exact cell_one_new _ _ _ | (intro k u hk; match k, hk with | 0, hk => (simp at hk; subst hk; simp [go_sem]))
        case c2 => simp [Value.oneCell']
        case c3 => unfold maxLen; omega
        case c4 => omega
        case c5 => simp; omega
        intro s7 w7 hown7 hgr7 _
        have hbA : Below w4.heap.size w4 (w4.alloc (.cells #[.int .i64 (n4 : Int)] 3)) := balloc (Below.refl _ _) _
        have hrA := HR4.out.below hbA
        have hoA := ownsRow_below hown4 hbA
        have hr7 : RowsZ w.heap.size w7 (.slice v4a n4 v4c) (Z6.filter (fitZ m p)) := by
          refine ⟨hrA.out.kept hgr7 (rows_far hrA.out hoA (by decide)), fun q hq => ?_, hrA.inn.far⟩
          refine (hrA.inn.row q hq).kept hgr7 ?_
          cases hqb : q.1.ownBlock with
          | none => exact Or.inl rfl
          | some g =>
            refine Or.inr (fun e => ?_)
            have h1 := hlt4.out q hq g hqb
            have h2 := own_block hoA e.symm
            omega
        have hown7' : w7.ownsRow w2.heap.size 3 1 s7 (k + 1 + 1) (cellsG fInt (lfP m cs (k + 1 + 1))) := by rw [hlf.out, cellsG_append]; exact hown7
        have hty7 := hty4.trans ((TyKeep.of (B := w2.heap.size) hbA).trans (TyKeep.grown hgr7 hoA))
        have hbw7 : Below w.heap.size w w7 := grown_bel (hbw4.trans (hbA.mono hbw4.size)) hgr7 hoA hzw2
        obtain ⟨s7a, s7c, rfl⟩ := owns_shape hown7'
        clear hbA hrA hoA hown7 hgr7 hown4 hlf HR4
        go_wp2
        go_roundw
        case rel => exact ⟨k + 1, _, _, _, by omega, by go_num, rfl, rfl, hr7, hs4, hlt4, hown7', hty7, hbw7⟩
        case measure => simp [intOf]; omega
      · have hkn : k = n := by omega
        subst hkn
        have hfin : Hid (Z6.map Prod.snd = solL m cs) := Lib.hid (by rw [hs6.out, List.take_of_length_le (by rw [HN.out]; exact Nat.le_refl _)])
        have hr7 := HR6.out
        have hown7 : wr.ownsRow w.heap.size 3 1 (.slice s6a (k + 1) s6c) (lfP m cs (k + 1)).length (cellsG fInt (lfP m cs (k + 1))) := by rw [lfP_len]; exact own_mono hown6 hzw2
        clear hs6 HR6 hlt6
        go_wp2
        refine bodyPost_ret (v := .tuple #[.slice v6a n6 v6c, .slice s6a (k + 1) s6c, .bool true]) (by simp only [results, Try.results60]; go_simp) rfl ?_
        exact ⟨_, _, Z6, rfl, hr7, hfin, hown7, hbw6⟩
end Go.Proofs.Ytiafmojmanhdoaa

/- Puzzles: what the model answers of solutions. -/
namespace Go.Proofs.Ytiafmojmanhdoaa
open Go.ChangeShapes Go.WideShapes Go.ChangeAt Go.RowKit Go.Joins
set_option maxRecDepth 100000
set_option linter.unusedVariables false
set_option linter.unusedSimpArgs false

set_option maxHeartbeats 3200000 in
theorem solutions_spec (m : Int) (bm : -9223372036854775808 ≤ m ∧ m ≤ 9223372036854775807) (v : Value) (cs : List ClueV) (w : World) (h : RowG 3 fClue w v cs) :
    Calls Try.prog 20 #[.agg #[.int .i64 m, v]] w (AnsZ (soL m cs) (pzB m cs) w) := by
  have HG := Lib.hid (fun W (hB : Below w.heap.size w W) => good9_spec m bm v cs W (rowG_below h hB))
  have HA := Lib.hid (fun (hp : pzB m cs = true) W (hB : Below w.heap.size w W) => all_spec9 m (miB_yes (pzB_yes hp).1).1 (miB_yes (pzB_yes hp).1).2 v cs (pzB_yes hp).2.2 W (rowG_below h hB))
  obtain ⟨a0, c0, rfl, hl1, hl2⟩ := row_shape h
  clear h
  cases hp : pzB m cs
  · have e1 : soL m cs = [] := by simp [soL, hp]
    rw [hp] at HG
    rw [e1]
    clear e1 hp HA
    go_enter Try.func20, Try.ntmps20
    go_wp2_with fail
    refine (HG.out _ (by (repeat (first | with_reducible exact Below.refl _ _ | with_reducible assumption | with_reducible refine balloc ?_ _ | with_reducible refine bdrew ?_ | with_reducible refine below_drewN ?_ _ | with_reducible refine bset ?_ ?_ _ | with_reducible exact Nat.le_refl _ | with_reducible refine bsize ?_ | (dsimp only; refine Nat.le_trans ?_ (Nat.le_add_right _ _)) | with_reducible refine Nat.le_trans ?_ (Nat.le_add_right _ _) | (with_reducible refine bstep ?_ (by assumption)))))).mono ?_
    rintro e w1 ⟨rfl, hb1⟩
    go_wp2
    refine bodyPost_ret (v := .tuple #[.slice none 0 0, .bool false]) (by simp only [results, Try.results20]; go_simp) rfl ?_
    exact ⟨_, [], rfl, RowsZ.nil _ _, Lib.hid rfl, by (repeat (first | with_reducible exact Below.refl _ _ | with_reducible assumption | with_reducible refine balloc ?_ _ | with_reducible refine bdrew ?_ | with_reducible refine below_drewN ?_ _ | with_reducible refine bset ?_ ?_ _ | with_reducible exact Nat.le_refl _ | with_reducible refine bsize ?_ | (dsimp only; refine Nat.le_trans ?_ (Nat.le_add_right _ _)) | with_reducible refine Nat.le_trans ?_ (Nat.le_add_right _ _) | (with_reducible refine bstep ?_ (by assumption))))⟩
  · have e1 : soL m cs = solL m cs := by simp [soL, hp]
    have HA2 := Lib.hid (HA.out hp)
    rw [hp] at HG
    rw [e1]
    clear e1 hp HA
    generalize solL m cs = L at *
    go_enter Try.func20, Try.ntmps20
    go_wp2_with fail
    refine (HG.out _ (by (repeat (first | with_reducible exact Below.refl _ _ | with_reducible assumption | with_reducible refine balloc ?_ _ | with_reducible refine bdrew ?_ | with_reducible refine below_drewN ?_ _ | with_reducible refine bset ?_ ?_ _ | with_reducible exact Nat.le_refl _ | with_reducible refine bsize ?_ | (dsimp only; refine Nat.le_trans ?_ (Nat.le_add_right _ _)) | with_reducible refine Nat.le_trans ?_ (Nat.le_add_right _ _) | (with_reducible refine bstep ?_ (by assumption)))))).mono ?_
    rintro e w1 ⟨rfl, hb1⟩
    obtain ⟨q0, q1, qz⟩ := pz_box (w := w) (w1 := w1) (t := 41) (by simpa using hb1)
    have hbw1 : Below w.heap.size w w1 := by (repeat (first | with_reducible exact Below.refl _ _ | with_reducible assumption | with_reducible refine balloc ?_ _ | with_reducible refine bdrew ?_ | with_reducible refine below_drewN ?_ _ | with_reducible refine bset ?_ ?_ _ | with_reducible exact Nat.le_refl _ | with_reducible refine bsize ?_ | (dsimp only; refine Nat.le_trans ?_ (Nat.le_add_right _ _)) | with_reducible refine Nat.le_trans ?_ (Nat.le_add_right _ _) | (with_reducible refine bstep ?_ (by assumption))))
    clear hb1
    go_wp2_with fail
    refine Calls.mono (HA2.out _ hbw1) ?_
    rintro e w2 ⟨v2, Z2, rfl, hr2, hm2, hb2⟩
    obtain ⟨va, vc, hv⟩ := owns_shape hr2.out
    obtain ⟨n2, hn2⟩ : ∃ n, Z2.length = n := ⟨_, rfl⟩
    have HN := Lib.hid hn2
    rw [hn2] at hv
    subst hv
    have hbw2 : Below w.heap.size w w2 := hbw1.trans (hb2.mono hbw1.size)
    have hzw1 := hbw1.size
    have hlen := Lib.hid (show L.length = n2 by rw [← hm2.out, List.length_map, hn2])
    clear hn2 hb2
    go_wp2
    refine bodyPost_ret (v := .tuple #[.slice va n2 vc, .bool true]) (by simp only [results, Try.results20]; go_simp) rfl ?_
    exact ⟨_, Z2, rfl, hr2.mono hzw1, hm2, hbw2⟩
set_option maxHeartbeats 3200000 in
theorem count_spec (m : Int) (bm : -9223372036854775808 ≤ m ∧ m ≤ 9223372036854775807) (v : Value) (cs : List ClueV) (w : World) (h : RowG 3 fClue w v cs) :
    Calls Try.prog 28 #[.agg #[.int .i64 m, v]] w (fun e w' => e = .returned (.tuple #[.int .i64 ((soL m cs).length : Int), .bool (pzB m cs)]) ∧ Below w.heap.size w w') := by
  have HG := Lib.hid (fun W (hB : Below w.heap.size w W) => good9_spec m bm v cs W (rowG_below h hB))
  have HA := Lib.hid (fun (hp : pzB m cs = true) W (hB : Below w.heap.size w W) => all_spec9 m (miB_yes (pzB_yes hp).1).1 (miB_yes (pzB_yes hp).1).2 v cs (pzB_yes hp).2.2 W (rowG_below h hB))
  obtain ⟨a0, c0, rfl, hl1, hl2⟩ := row_shape h
  clear h
  cases hp : pzB m cs
  · have e1 : soL m cs = [] := by simp [soL, hp]
    rw [hp] at HG
    rw [e1]
    clear e1 hp HA
    go_enter Try.func28, Try.ntmps28
    go_wp2_with fail
    refine (HG.out _ (by (repeat (first | with_reducible exact Below.refl _ _ | with_reducible assumption | with_reducible refine balloc ?_ _ | with_reducible refine bdrew ?_ | with_reducible refine below_drewN ?_ _ | with_reducible refine bset ?_ ?_ _ | with_reducible exact Nat.le_refl _ | with_reducible refine bsize ?_ | (dsimp only; refine Nat.le_trans ?_ (Nat.le_add_right _ _)) | with_reducible refine Nat.le_trans ?_ (Nat.le_add_right _ _) | (with_reducible refine bstep ?_ (by assumption)))))).mono ?_
    rintro e w1 ⟨rfl, hb1⟩
    go_wp2
    refine bodyPost_ret (v := .tuple #[.int .i64 0, .bool false]) (by simp only [results, Try.results28]; go_simp) rfl ?_
    exact ⟨rfl, by (repeat (first | with_reducible exact Below.refl _ _ | with_reducible assumption | with_reducible refine balloc ?_ _ | with_reducible refine bdrew ?_ | with_reducible refine below_drewN ?_ _ | with_reducible refine bset ?_ ?_ _ | with_reducible exact Nat.le_refl _ | with_reducible refine bsize ?_ | (dsimp only; refine Nat.le_trans ?_ (Nat.le_add_right _ _)) | with_reducible refine Nat.le_trans ?_ (Nat.le_add_right _ _) | (with_reducible refine bstep ?_ (by assumption))))⟩
  · have e1 : soL m cs = solL m cs := by simp [soL, hp]
    have HA2 := Lib.hid (HA.out hp)
    rw [hp] at HG
    rw [e1]
    clear e1 hp HA
    generalize solL m cs = L at *
    go_enter Try.func28, Try.ntmps28
    go_wp2_with fail
    refine (HG.out _ (by (repeat (first | with_reducible exact Below.refl _ _ | with_reducible assumption | with_reducible refine balloc ?_ _ | with_reducible refine bdrew ?_ | with_reducible refine below_drewN ?_ _ | with_reducible refine bset ?_ ?_ _ | with_reducible exact Nat.le_refl _ | with_reducible refine bsize ?_ | (dsimp only; refine Nat.le_trans ?_ (Nat.le_add_right _ _)) | with_reducible refine Nat.le_trans ?_ (Nat.le_add_right _ _) | (with_reducible refine bstep ?_ (by assumption)))))).mono ?_
    rintro e w1 ⟨rfl, hb1⟩
    obtain ⟨q0, q1, qz⟩ := pz_box (w := w) (w1 := w1) (t := 41) (by simpa using hb1)
    have hbw1 : Below w.heap.size w w1 := by (repeat (first | with_reducible exact Below.refl _ _ | with_reducible assumption | with_reducible refine balloc ?_ _ | with_reducible refine bdrew ?_ | with_reducible refine below_drewN ?_ _ | with_reducible refine bset ?_ ?_ _ | with_reducible exact Nat.le_refl _ | with_reducible refine bsize ?_ | (dsimp only; refine Nat.le_trans ?_ (Nat.le_add_right _ _)) | with_reducible refine Nat.le_trans ?_ (Nat.le_add_right _ _) | (with_reducible refine bstep ?_ (by assumption))))
    clear hb1
    go_wp2_with fail
    refine Calls.mono (HA2.out _ hbw1) ?_
    rintro e w2 ⟨v2, Z2, rfl, hr2, hm2, hb2⟩
    obtain ⟨va, vc, hv⟩ := owns_shape hr2.out
    obtain ⟨n2, hn2⟩ : ∃ n, Z2.length = n := ⟨_, rfl⟩
    have HN := Lib.hid hn2
    rw [hn2] at hv
    subst hv
    have hbw2 : Below w.heap.size w w2 := hbw1.trans (hb2.mono hbw1.size)
    have hzw1 := hbw1.size
    have hlen := Lib.hid (show L.length = n2 by rw [← hm2.out, List.length_map, hn2])
    clear hn2 hb2
    go_wp2
    refine bodyPost_ret (v := .tuple #[.int .i64 (n2 : Int), .bool true]) (by simp only [results, Try.results28]; go_simp) rfl ?_
    exact ⟨by rw [hlen.out], hbw2⟩
theorem zlist {L : List (List Int)} {Z : ZL} {n : Nat} (hn : Z.length = n) (hm : Z.map Prod.snd = L) : (n = 0 → L = []) ∧ (n ≠ 0 → ∃ q, Z[0]? = some q ∧ ((!L.isEmpty) = true ∧ L.headD [] = q.2)) := by
  subst hn hm
  cases Z with
  | nil => exact ⟨fun _ => rfl, fun h => absurd rfl h⟩
  | cons q Z => exact ⟨fun h => by simp at h, fun _ => ⟨q, rfl, rfl, rfl⟩⟩
set_option maxHeartbeats 3200000 in
theorem first_spec (m : Int) (bm : -9223372036854775808 ≤ m ∧ m ≤ 9223372036854775807) (v : Value) (cs : List ClueV) (w : World) (h : RowG 3 fClue w v cs) :
    Calls Try.prog 30 #[.agg #[.int .i64 m, v]] w (AnsG 3 1 fInt ((soL m cs).headD []) (!(soL m cs).isEmpty) w) := by
  have HG := Lib.hid (fun W (hB : Below w.heap.size w W) => good9_spec m bm v cs W (rowG_below h hB))
  have HA := Lib.hid (fun (hp : pzB m cs = true) W (hB : Below w.heap.size w W) => all_spec9 m (miB_yes (pzB_yes hp).1).1 (miB_yes (pzB_yes hp).1).2 v cs (pzB_yes hp).2.2 W (rowG_below h hB))
  obtain ⟨a0, c0, rfl, hl1, hl2⟩ := row_shape h
  clear h
  cases hp : pzB m cs
  · have e1 : soL m cs = [] := by simp [soL, hp]
    rw [hp] at HG
    rw [e1]
    clear e1 hp HA
    go_enter Try.func30, Try.ntmps30
    go_wp2_with fail
    refine (HG.out _ (by (repeat (first | with_reducible exact Below.refl _ _ | with_reducible assumption | with_reducible refine balloc ?_ _ | with_reducible refine bdrew ?_ | with_reducible refine below_drewN ?_ _ | with_reducible refine bset ?_ ?_ _ | with_reducible exact Nat.le_refl _ | with_reducible refine bsize ?_ | (dsimp only; refine Nat.le_trans ?_ (Nat.le_add_right _ _)) | with_reducible refine Nat.le_trans ?_ (Nat.le_add_right _ _) | (with_reducible refine bstep ?_ (by assumption)))))).mono ?_
    rintro e w1 ⟨rfl, hb1⟩
    go_wp2
    refine bodyPost_ret (v := .tuple #[.slice none 0 0, .bool false]) (by simp only [results, Try.results30]; go_simp) rfl ?_
    exact ⟨_, rfl, World.ownsRow_nil _ _ _ _, by (repeat (first | with_reducible exact Below.refl _ _ | with_reducible assumption | with_reducible refine balloc ?_ _ | with_reducible refine bdrew ?_ | with_reducible refine below_drewN ?_ _ | with_reducible refine bset ?_ ?_ _ | with_reducible exact Nat.le_refl _ | with_reducible refine bsize ?_ | (dsimp only; refine Nat.le_trans ?_ (Nat.le_add_right _ _)) | with_reducible refine Nat.le_trans ?_ (Nat.le_add_right _ _) | (with_reducible refine bstep ?_ (by assumption))))⟩
  · have e1 : soL m cs = solL m cs := by simp [soL, hp]
    have HA2 := Lib.hid (HA.out hp)
    rw [hp] at HG
    rw [e1]
    clear e1 hp HA
    generalize solL m cs = L at *
    go_enter Try.func30, Try.ntmps30
    go_wp2_with fail
    refine (HG.out _ (by (repeat (first | with_reducible exact Below.refl _ _ | with_reducible assumption | with_reducible refine balloc ?_ _ | with_reducible refine bdrew ?_ | with_reducible refine below_drewN ?_ _ | with_reducible refine bset ?_ ?_ _ | with_reducible exact Nat.le_refl _ | with_reducible refine bsize ?_ | (dsimp only; refine Nat.le_trans ?_ (Nat.le_add_right _ _)) | with_reducible refine Nat.le_trans ?_ (Nat.le_add_right _ _) | (with_reducible refine bstep ?_ (by assumption)))))).mono ?_
    rintro e w1 ⟨rfl, hb1⟩
    obtain ⟨q0, q1, qz⟩ := pz_box (w := w) (w1 := w1) (t := 41) (by simpa using hb1)
    have hbw1 : Below w.heap.size w w1 := by (repeat (first | with_reducible exact Below.refl _ _ | with_reducible assumption | with_reducible refine balloc ?_ _ | with_reducible refine bdrew ?_ | with_reducible refine below_drewN ?_ _ | with_reducible refine bset ?_ ?_ _ | with_reducible exact Nat.le_refl _ | with_reducible refine bsize ?_ | (dsimp only; refine Nat.le_trans ?_ (Nat.le_add_right _ _)) | with_reducible refine Nat.le_trans ?_ (Nat.le_add_right _ _) | (with_reducible refine bstep ?_ (by assumption))))
    clear hb1
    go_wp2_with fail
    refine Calls.mono (HA2.out _ hbw1) ?_
    rintro e w2 ⟨v2, Z2, rfl, hr2, hm2, hb2⟩
    obtain ⟨va, vc, hv⟩ := owns_shape hr2.out
    obtain ⟨n2, hn2⟩ : ∃ n, Z2.length = n := ⟨_, rfl⟩
    have HN := Lib.hid hn2
    rw [hn2] at hv
    subst hv
    have hbw2 : Below w.heap.size w w2 := hbw1.trans (hb2.mono hbw1.size)
    have hzw1 := hbw1.size
    have hlen := Lib.hid (show L.length = n2 by rw [← hm2.out, List.length_map, hn2])
    clear hn2 hb2
    have hz := zlist HN.out hm2.out
    by_cases h0 : n2 = 0
    · subst h0
      have hL := Lib.hid (hz.1 rfl)
      clear hz
      go_wp2
      refine bodyPost_ret (v := .tuple #[.slice none 0 0, .bool false]) (by simp only [results, Try.results30]; go_simp) rfl ?_
      exact ⟨_, by rw [hL.out]; rfl, by rw [hL.out]; exact World.ownsRow_nil _ _ _ _, hbw2⟩
    · obtain ⟨q, hq, hL⟩ := hz.2 h0
      obtain ⟨ad, rfl⟩ : ∃ ad, va = some ad := by
        have h := hr2.out
        rw [HN.out] at h
        cases va with
        | none => exact absurd ((own_addr h).1 rfl).1 h0
        | some ad => exact ⟨ad, rfl⟩
      have hc : w2.cell? ad = some q.1 := by
        have h := hr2.out
        rw [HN.out] at h
        have h2 := (own_addr h).2.2.2 ad rfl 0 q.1 (by rw [List.getElem?_map, hq]; rfl)
        rwa [show ad.add 0 = ad from by simp [Addr.add]] at h2
      have hown := hr2.inn.row q (List.mem_of_getElem? hq)
      obtain ⟨qa, qc, hqs⟩ := owns_shape hown
      rw [hqs] at hc hown
      have HL := Lib.hid hL
      have hi0 : ¬ (n2 : Int) = 0 := by omega
      have hi1 : (0 : Int) < (n2 : Int) := by omega
      have hbq : ((n2 : Int) == 0) = false := beq_eq_false_iff_ne.2 hi0
      obtain ⟨nq, hnq⟩ : ∃ n, q.2.length = n := ⟨_, rfl⟩
      have HQ := Lib.hid hnq
      rw [hnq] at hc hown
      clear hz hq hL hqs hnq
      go_wp2
      refine bodyPost_ret (v := .tuple #[.slice qa nq qc, .bool true]) (by simp only [results, Try.results30]; go_simp) rfl ?_
      exact ⟨_, by rw [HL.out.1], by rw [HL.out.2, HQ.out]; exact own_mono hown hzw1, hbw2⟩
set_option maxHeartbeats 3200000 in
theorem solved_spec (m : Int) (m1 : 1 ≤ m) (m2 : m ≤ 10) (v : Value) (cs : List ClueV) (hcs : ∀ p ∈ cs, clP m p = true) (w : World) (h : RowG 3 fClue w v cs) :
    Calls Try.prog 67 #[.int .i64 m, v] w fun e w' => e = .returned (.bool (decide ((solL m cs).length = 1))) ∧ Below w.heap.size w w' := by
  have HA := Lib.hid (fun W (hB : Below w.heap.size w W) => all_spec9 m m1 m2 v cs hcs W (rowG_below h hB))
  obtain ⟨a0, c0, rfl, hl1, hl2⟩ := row_shape h
  clear h
  generalize solL m cs = L at *
  go_enter Try.func67, Try.ntmps67
  go_wp2_with fail
  refine Calls.mono (HA.out _ (by (repeat (first | with_reducible exact Below.refl _ _ | with_reducible assumption | with_reducible refine balloc ?_ _ | with_reducible refine bdrew ?_ | with_reducible refine below_drewN ?_ _ | with_reducible refine bset ?_ ?_ _ | with_reducible exact Nat.le_refl _ | with_reducible refine bsize ?_ | (dsimp only; refine Nat.le_trans ?_ (Nat.le_add_right _ _)) | with_reducible refine Nat.le_trans ?_ (Nat.le_add_right _ _) | (with_reducible refine bstep ?_ (by assumption)))))) ?_
  rintro e w2 ⟨v2, Z2, rfl, hr2, hm2, hb2⟩
  obtain ⟨va, vc, hv⟩ := owns_shape hr2.out
  obtain ⟨n2, hn2⟩ : ∃ n, Z2.length = n := ⟨_, rfl⟩
  rw [hn2] at hv
  subst hv
  have hlen := Lib.hid (show L.length = n2 by rw [← hm2.out, List.length_map, hn2])
  clear hn2 hr2 hm2
  by_cases hq : n2 = 1
  · subst hq
    go_wp2
    go_ret
    exact ⟨by rw [hlen.out]; rfl, by (repeat (first | with_reducible exact Below.refl _ _ | with_reducible assumption | with_reducible refine balloc ?_ _ | with_reducible refine bdrew ?_ | with_reducible refine below_drewN ?_ _ | with_reducible refine bset ?_ ?_ _ | with_reducible exact Nat.le_refl _ | with_reducible refine bsize ?_ | (dsimp only; refine Nat.le_trans ?_ (Nat.le_add_right _ _)) | with_reducible refine Nat.le_trans ?_ (Nat.le_add_right _ _) | (with_reducible refine bstep ?_ (by assumption))))⟩
  · have hq1 : ¬ (n2 : Int) = 1 := by omega
    have hq2 : ((n2 : Int) == 1) = false := beq_eq_false_iff_ne.2 hq1
    go_wp2
    go_ret
    exact ⟨by rw [hlen.out]; simp [hq], by (repeat (first | with_reducible exact Below.refl _ _ | with_reducible assumption | with_reducible refine balloc ?_ _ | with_reducible refine bdrew ?_ | with_reducible refine below_drewN ?_ _ | with_reducible refine bset ?_ ?_ _ | with_reducible exact Nat.le_refl _ | with_reducible refine bsize ?_ | (dsimp only; refine Nat.le_trans ?_ (Nat.le_add_right _ _)) | with_reducible refine Nat.le_trans ?_ (Nat.le_add_right _ _) | (with_reducible refine bstep ?_ (by assumption))))⟩
set_option maxHeartbeats 3200000 in
theorem isSolved_spec (m : Int) (bm : -9223372036854775808 ≤ m ∧ m ≤ 9223372036854775807) (v : Value) (cs : List ClueV) (w : World) (h : RowG 3 fClue w v cs) :
    Calls Try.prog 38 #[.agg #[.int .i64 m, v]] w fun e w' => e = .returned (.tuple #[.bool (decide ((soL m cs).length = 1)), .bool (pzB m cs)]) ∧ Below w.heap.size w w' := by
  have HG := Lib.hid (fun W (hB : Below w.heap.size w W) => good9_spec m bm v cs W (rowG_below h hB))
  have HA := Lib.hid (fun (hp : pzB m cs = true) W (hB : Below w.heap.size w W) => solved_spec m (miB_yes (pzB_yes hp).1).1 (miB_yes (pzB_yes hp).1).2 v cs (pzB_yes hp).2.2 W (rowG_below h hB))
  obtain ⟨a0, c0, rfl, hl1, hl2⟩ := row_shape h
  clear h
  cases hp : pzB m cs
  · have e1 : soL m cs = [] := by simp [soL, hp]
    rw [hp] at HG
    rw [e1]
    clear e1 hp HA
    go_enter Try.func38, Try.ntmps38
    go_wp2_with fail
    refine (HG.out _ (by (repeat (first | with_reducible exact Below.refl _ _ | with_reducible assumption | with_reducible refine balloc ?_ _ | with_reducible refine bdrew ?_ | with_reducible refine below_drewN ?_ _ | with_reducible refine bset ?_ ?_ _ | with_reducible exact Nat.le_refl _ | with_reducible refine bsize ?_ | (dsimp only; refine Nat.le_trans ?_ (Nat.le_add_right _ _)) | with_reducible refine Nat.le_trans ?_ (Nat.le_add_right _ _) | (with_reducible refine bstep ?_ (by assumption)))))).mono ?_
    rintro e w1 ⟨rfl, hb1⟩
    go_wp2
    refine bodyPost_ret (v := .tuple #[.bool false, .bool false]) (by simp only [results, Try.results38]; go_simp) rfl ?_
    exact ⟨rfl, by (repeat (first | with_reducible exact Below.refl _ _ | with_reducible assumption | with_reducible refine balloc ?_ _ | with_reducible refine bdrew ?_ | with_reducible refine below_drewN ?_ _ | with_reducible refine bset ?_ ?_ _ | with_reducible exact Nat.le_refl _ | with_reducible refine bsize ?_ | (dsimp only; refine Nat.le_trans ?_ (Nat.le_add_right _ _)) | with_reducible refine Nat.le_trans ?_ (Nat.le_add_right _ _) | (with_reducible refine bstep ?_ (by assumption))))⟩
  · have e1 : soL m cs = solL m cs := by simp [soL, hp]
    have HA2 := Lib.hid (HA.out hp)
    rw [hp] at HG
    rw [e1]
    clear e1 hp HA
    generalize decide ((solL m cs).length = 1) = R at *
    go_enter Try.func38, Try.ntmps38
    go_wp2_with fail
    refine (HG.out _ (by (repeat (first | with_reducible exact Below.refl _ _ | with_reducible assumption | with_reducible refine balloc ?_ _ | with_reducible refine bdrew ?_ | with_reducible refine below_drewN ?_ _ | with_reducible refine bset ?_ ?_ _ | with_reducible exact Nat.le_refl _ | with_reducible refine bsize ?_ | (dsimp only; refine Nat.le_trans ?_ (Nat.le_add_right _ _)) | with_reducible refine Nat.le_trans ?_ (Nat.le_add_right _ _) | (with_reducible refine bstep ?_ (by assumption)))))).mono ?_
    rintro e w1 ⟨rfl, hb1⟩
    obtain ⟨q0, q1, qz⟩ := pz_box (w := w) (w1 := w1) (t := 41) (by simpa using hb1)
    have hbw1 : Below w.heap.size w w1 := by (repeat (first | with_reducible exact Below.refl _ _ | with_reducible assumption | with_reducible refine balloc ?_ _ | with_reducible refine bdrew ?_ | with_reducible refine below_drewN ?_ _ | with_reducible refine bset ?_ ?_ _ | with_reducible exact Nat.le_refl _ | with_reducible refine bsize ?_ | (dsimp only; refine Nat.le_trans ?_ (Nat.le_add_right _ _)) | with_reducible refine Nat.le_trans ?_ (Nat.le_add_right _ _) | (with_reducible refine bstep ?_ (by assumption))))
    clear hb1
    go_wp2_with fail
    refine Calls.mono (HA2.out _ hbw1) ?_
    rintro e w2 ⟨rfl, hb2⟩
    go_wp2
    refine bodyPost_ret (v := .tuple #[.bool R, .bool true]) (by simp only [results, Try.results38]; go_simp) rfl ?_
    exact ⟨rfl, by (repeat (first | with_reducible exact Below.refl _ _ | with_reducible assumption | with_reducible refine balloc ?_ _ | with_reducible refine bdrew ?_ | with_reducible refine below_drewN ?_ _ | with_reducible refine bset ?_ ?_ _ | with_reducible exact Nat.le_refl _ | with_reducible refine bsize ?_ | (dsimp only; refine Nat.le_trans ?_ (Nat.le_add_right _ _)) | with_reducible refine Nat.le_trans ?_ (Nat.le_add_right _ _) | (with_reducible refine bstep ?_ (by assumption))))⟩
end Go.Proofs.Ytiafmojmanhdoaa

/- Puzzles: what the program answers of solutions. -/
namespace Go.Proofs.Ytiafmojmanhdoaa
open Go.ChangeShapes Go.WideShapes Go.ChangeAt Go.RowKit Go.Joins
set_option maxRecDepth 100000
set_option linter.unusedVariables false
set_option linter.unusedSimpArgs false

set_option maxHeartbeats 3200000 in
theorem solutions_impl (m : Int) (bm : -9223372036854775808 ≤ m ∧ m ≤ 9223372036854775807) (v : Value) (cs : List ClueV) (w : World) (h : RowG 3 fClue w v cs) :
    Calls Try.prog 22 #[.agg #[.int .i64 m, v]] w (AnsZ (soL m cs) (pzB m cs) w) := by
  have HC := Lib.hid (fun W (hB : Below w.heap.size w W) => sift_impl m bm v cs W (rowG_below h hB))
  obtain ⟨a0, c0, rfl, hl1, hl2⟩ := row_shape h
  clear h
  unfold AnsZ
  unfold EndSf at HC
  generalize pzB m cs = B at *
  generalize soL m cs = L at *
  generalize lfL m cs = LF at *
  go_enter Try.func22, Try.ntmps22
  go_wp2_with fail
  refine Calls.mono (HC.out _ (by (repeat (first | with_reducible exact Below.refl _ _ | with_reducible assumption | with_reducible refine balloc ?_ _ | with_reducible refine bdrew ?_ | with_reducible refine below_drewN ?_ _ | with_reducible refine bset ?_ ?_ _ | with_reducible exact Nat.le_refl _ | with_reducible refine bsize ?_ | (dsimp only; refine Nat.le_trans ?_ (Nat.le_add_right _ _)) | with_reducible refine Nat.le_trans ?_ (Nat.le_add_right _ _) | (with_reducible refine bstep ?_ (by assumption)))))) ?_
  rintro e w2 ⟨v2, s2, Z2, rfl, hr2, hm2, hs2, hb2⟩
  have hbw2 : Below w.heap.size w w2 := by (repeat (first | with_reducible exact Below.refl _ _ | with_reducible assumption | with_reducible refine balloc ?_ _ | with_reducible refine bdrew ?_ | with_reducible refine below_drewN ?_ _ | with_reducible refine bset ?_ ?_ _ | with_reducible exact Nat.le_refl _ | with_reducible refine bsize ?_ | (dsimp only; refine Nat.le_trans ?_ (Nat.le_add_right _ _)) | with_reducible refine Nat.le_trans ?_ (Nat.le_add_right _ _) | (with_reducible refine bstep ?_ (by assumption))))
  obtain ⟨va, vc, hv⟩ := owns_shape hr2.out
  obtain ⟨n2, hn2⟩ : ∃ n, Z2.length = n := ⟨_, rfl⟩
  rw [hn2] at hv
  subst hv
  obtain ⟨sa, sc, rfl⟩ := owns_shape hs2
  clear hs2 hn2
  have hr3 : RowsZ w.heap.size w2 (.slice va n2 vc) Z2 := hr2.mono (by simp)
  clear hr2
  go_wp2
  refine bodyPost_ret (v := .tuple #[.slice va n2 vc, .bool B]) (by simp only [results, Try.results22]; go_simp) rfl ?_
  exact ⟨_, Z2, rfl, hr3, hm2, hbw2⟩
set_option maxHeartbeats 3200000 in
theorem left_impl (m : Int) (bm : -9223372036854775808 ≤ m ∧ m ≤ 9223372036854775807) (v : Value) (cs : List ClueV) (w : World) (h : RowG 3 fClue w v cs) :
    Calls Try.prog 43 #[.agg #[.int .i64 m, v]] w (AnsG 3 1 fInt (lfL m cs) (pzB m cs) w) := by
  have HC := Lib.hid (fun W (hB : Below w.heap.size w W) => sift_impl m bm v cs W (rowG_below h hB))
  obtain ⟨a0, c0, rfl, hl1, hl2⟩ := row_shape h
  clear h
  unfold AnsG
  unfold EndSf at HC
  generalize pzB m cs = B at *
  generalize soL m cs = L at *
  generalize lfL m cs = LF at *
  go_enter Try.func43, Try.ntmps43
  go_wp2_with fail
  refine Calls.mono (HC.out _ (by (repeat (first | with_reducible exact Below.refl _ _ | with_reducible assumption | with_reducible refine balloc ?_ _ | with_reducible refine bdrew ?_ | with_reducible refine below_drewN ?_ _ | with_reducible refine bset ?_ ?_ _ | with_reducible exact Nat.le_refl _ | with_reducible refine bsize ?_ | (dsimp only; refine Nat.le_trans ?_ (Nat.le_add_right _ _)) | with_reducible refine Nat.le_trans ?_ (Nat.le_add_right _ _) | (with_reducible refine bstep ?_ (by assumption)))))) ?_
  rintro e w2 ⟨v2, s2, Z2, rfl, hr2, hm2, hs2, hb2⟩
  have hbw2 : Below w.heap.size w w2 := by (repeat (first | with_reducible exact Below.refl _ _ | with_reducible assumption | with_reducible refine balloc ?_ _ | with_reducible refine bdrew ?_ | with_reducible refine below_drewN ?_ _ | with_reducible refine bset ?_ ?_ _ | with_reducible exact Nat.le_refl _ | with_reducible refine bsize ?_ | (dsimp only; refine Nat.le_trans ?_ (Nat.le_add_right _ _)) | with_reducible refine Nat.le_trans ?_ (Nat.le_add_right _ _) | (with_reducible refine bstep ?_ (by assumption))))
  obtain ⟨va, vc, hv⟩ := owns_shape hr2.out
  obtain ⟨n2, hn2⟩ : ∃ n, Z2.length = n := ⟨_, rfl⟩
  rw [hn2] at hv
  subst hv
  obtain ⟨sa, sc, rfl⟩ := owns_shape hs2
  have hs3 : w2.ownsRow w.heap.size 3 1 (.slice sa LF.length sc) LF.length (cellsG fInt LF) := own_mono hs2 (by simp)
  clear hs2 hr2 hn2 hm2
  go_wp2
  refine bodyPost_ret (v := .tuple #[.slice sa LF.length sc, .bool B]) (by simp only [results, Try.results43]; go_simp) rfl ?_
  exact ⟨_, rfl, hs3, hbw2⟩
set_option maxHeartbeats 3200000 in
theorem count_impl (m : Int) (bm : -9223372036854775808 ≤ m ∧ m ≤ 9223372036854775807) (v : Value) (cs : List ClueV) (w : World) (h : RowG 3 fClue w v cs) :
    Calls Try.prog 29 #[.agg #[.int .i64 m, v]] w (fun e w' => e = .returned (.tuple #[.int .i64 ((soL m cs).length : Int), .bool (pzB m cs)]) ∧ Below w.heap.size w w') := by
  have HC := Lib.hid (fun W (hB : Below w.heap.size w W) => solutions_impl m bm v cs W (rowG_below h hB))
  obtain ⟨a0, c0, rfl, hl1, hl2⟩ := row_shape h
  clear h
  unfold AnsZ at HC
  generalize pzB m cs = B at *
  generalize soL m cs = L at *
  go_enter Try.func29, Try.ntmps29
  go_wp2_with fail
  refine Calls.mono (HC.out _ (by (repeat (first | with_reducible exact Below.refl _ _ | with_reducible assumption | with_reducible refine balloc ?_ _ | with_reducible refine bdrew ?_ | with_reducible refine below_drewN ?_ _ | with_reducible refine bset ?_ ?_ _ | with_reducible exact Nat.le_refl _ | with_reducible refine bsize ?_ | (dsimp only; refine Nat.le_trans ?_ (Nat.le_add_right _ _)) | with_reducible refine Nat.le_trans ?_ (Nat.le_add_right _ _) | (with_reducible refine bstep ?_ (by assumption)))))) ?_
  rintro e w2 ⟨v2, Z2, rfl, hr2, hm2, hb2⟩
  have hbw2 : Below w.heap.size w w2 := by (repeat (first | with_reducible exact Below.refl _ _ | with_reducible assumption | with_reducible refine balloc ?_ _ | with_reducible refine bdrew ?_ | with_reducible refine below_drewN ?_ _ | with_reducible refine bset ?_ ?_ _ | with_reducible exact Nat.le_refl _ | with_reducible refine bsize ?_ | (dsimp only; refine Nat.le_trans ?_ (Nat.le_add_right _ _)) | with_reducible refine Nat.le_trans ?_ (Nat.le_add_right _ _) | (with_reducible refine bstep ?_ (by assumption))))
  obtain ⟨va, vc, hv⟩ := owns_shape hr2.out
  obtain ⟨n2, hn2⟩ : ∃ n, Z2.length = n := ⟨_, rfl⟩
  rw [hn2] at hv
  subst hv
  have hlen := Lib.hid (show L.length = n2 by rw [← hm2.out, List.length_map, hn2])
  clear hr2 hm2 hn2
  go_wp2
  refine bodyPost_ret (v := .tuple #[.int .i64 (n2 : Int), .bool B]) (by simp only [results, Try.results29]; go_simp) rfl ?_
  exact ⟨by rw [hlen.out], hbw2⟩
set_option maxHeartbeats 3200000 in
theorem first_impl (m : Int) (bm : -9223372036854775808 ≤ m ∧ m ≤ 9223372036854775807) (v : Value) (cs : List ClueV) (w : World) (h : RowG 3 fClue w v cs) :
    Calls Try.prog 31 #[.agg #[.int .i64 m, v]] w (AnsG 3 1 fInt ((soL m cs).headD []) (!(soL m cs).isEmpty) w) := by
  have HC := Lib.hid (fun W (hB : Below w.heap.size w W) => solutions_impl m bm v cs W (rowG_below h hB))
  obtain ⟨a0, c0, rfl, hl1, hl2⟩ := row_shape h
  clear h
  unfold AnsZ at HC
  unfold AnsG
  generalize pzB m cs = B at *
  generalize soL m cs = L at *
  go_enter Try.func31, Try.ntmps31
  go_wp2_with fail
  refine Calls.mono (HC.out _ (by (repeat (first | with_reducible exact Below.refl _ _ | with_reducible assumption | with_reducible refine balloc ?_ _ | with_reducible refine bdrew ?_ | with_reducible refine below_drewN ?_ _ | with_reducible refine bset ?_ ?_ _ | with_reducible exact Nat.le_refl _ | with_reducible refine bsize ?_ | (dsimp only; refine Nat.le_trans ?_ (Nat.le_add_right _ _)) | with_reducible refine Nat.le_trans ?_ (Nat.le_add_right _ _) | (with_reducible refine bstep ?_ (by assumption)))))) ?_
  rintro e w2 ⟨v2, Z2, rfl, hr2, hm2, hb2⟩
  have hbw2 : Below w.heap.size w w2 := by (repeat (first | with_reducible exact Below.refl _ _ | with_reducible assumption | with_reducible refine balloc ?_ _ | with_reducible refine bdrew ?_ | with_reducible refine below_drewN ?_ _ | with_reducible refine bset ?_ ?_ _ | with_reducible exact Nat.le_refl _ | with_reducible refine bsize ?_ | (dsimp only; refine Nat.le_trans ?_ (Nat.le_add_right _ _)) | with_reducible refine Nat.le_trans ?_ (Nat.le_add_right _ _) | (with_reducible refine bstep ?_ (by assumption))))
  obtain ⟨va, vc, hv⟩ := owns_shape hr2.out
  obtain ⟨n2, hn2⟩ : ∃ n, Z2.length = n := ⟨_, rfl⟩
  have HN := Lib.hid hn2
  rw [hn2] at hv
  subst hv
  clear hn2
  have hz := zlist HN.out hm2.out
  by_cases h0 : n2 = 0
  · subst h0
    have hL := Lib.hid (hz.1 rfl)
    clear hz
    go_wp2
    refine bodyPost_ret (v := .tuple #[.slice none 0 0, .bool false]) (by simp only [results, Try.results31]; go_simp) rfl ?_
    exact ⟨_, by rw [hL.out]; rfl, by rw [hL.out]; exact World.ownsRow_nil _ _ _ _, hbw2⟩
  · obtain ⟨q, hq, hL⟩ := hz.2 h0
    obtain ⟨ad, rfl⟩ : ∃ ad, va = some ad := by
      have h := hr2.out
      rw [HN.out] at h
      cases va with
      | none => exact absurd ((own_addr h).1 rfl).1 h0
      | some ad => exact ⟨ad, rfl⟩
    have hc : w2.cell? ad = some q.1 := by
      have h := hr2.out
      rw [HN.out] at h
      have h2 := (own_addr h).2.2.2 ad rfl 0 q.1 (by rw [List.getElem?_map, hq]; rfl)
      rwa [show ad.add 0 = ad from by simp [Addr.add]] at h2
    have hown := hr2.inn.row q (List.mem_of_getElem? hq)
    obtain ⟨qa, qc, hqs⟩ := owns_shape hown
    rw [hqs] at hc hown
    have HL := Lib.hid hL
    have hi0 : ¬ (n2 : Int) = 0 := by omega
    have hi1 : (0 : Int) < (n2 : Int) := by omega
    have hbq : ((n2 : Int) == 0) = false := beq_eq_false_iff_ne.2 hi0
    obtain ⟨nq, hnq⟩ : ∃ n, q.2.length = n := ⟨_, rfl⟩
    have HQ := Lib.hid hnq
    rw [hnq] at hc hown
    clear hz hq hL hqs hnq
    go_wp2
    refine bodyPost_ret (v := .tuple #[.slice qa nq qc, .bool true]) (by simp only [results, Try.results31]; go_simp) rfl ?_
    exact ⟨_, by rw [HL.out.1], by rw [HL.out.2, HQ.out]; exact own_mono hown (by simp), hbw2⟩
set_option maxHeartbeats 3200000 in
theorem isSolved_impl (m : Int) (bm : -9223372036854775808 ≤ m ∧ m ≤ 9223372036854775807) (v : Value) (cs : List ClueV) (w : World) (h : RowG 3 fClue w v cs) :
    Calls Try.prog 39 #[.agg #[.int .i64 m, v]] w (fun e w' => e = .returned (.tuple #[.bool (decide ((soL m cs).length = 1)), .bool (pzB m cs)]) ∧ Below w.heap.size w w') := by
  have HC := Lib.hid (fun W (hB : Below w.heap.size w W) => count_impl m bm v cs W (rowG_below h hB))
  obtain ⟨a0, c0, rfl, hl1, hl2⟩ := row_shape h
  clear h
  generalize pzB m cs = B at *
  generalize (soL m cs).length = n at *
  go_enter Try.func39, Try.ntmps39
  go_wp2_with fail
  refine Calls.mono (HC.out _ (by (repeat (first | with_reducible exact Below.refl _ _ | with_reducible assumption | with_reducible refine balloc ?_ _ | with_reducible refine bdrew ?_ | with_reducible refine below_drewN ?_ _ | with_reducible refine bset ?_ ?_ _ | with_reducible exact Nat.le_refl _ | with_reducible refine bsize ?_ | (dsimp only; refine Nat.le_trans ?_ (Nat.le_add_right _ _)) | with_reducible refine Nat.le_trans ?_ (Nat.le_add_right _ _) | (with_reducible refine bstep ?_ (by assumption)))))) ?_
  rintro e w2 ⟨rfl, hb2⟩
  have hbw2 : Below w.heap.size w w2 := by (repeat (first | with_reducible exact Below.refl _ _ | with_reducible assumption | with_reducible refine balloc ?_ _ | with_reducible refine bdrew ?_ | with_reducible refine below_drewN ?_ _ | with_reducible refine bset ?_ ?_ _ | with_reducible exact Nat.le_refl _ | with_reducible refine bsize ?_ | (dsimp only; refine Nat.le_trans ?_ (Nat.le_add_right _ _)) | with_reducible refine Nat.le_trans ?_ (Nat.le_add_right _ _) | (with_reducible refine bstep ?_ (by assumption))))
  by_cases hq : n = 1
  · subst hq
    go_wp2
    refine bodyPost_ret (v := .tuple #[.bool true, .bool B]) (by simp only [results, Try.results39]; go_simp) rfl ?_
    exact ⟨rfl, hbw2⟩
  · have hq1 : ¬ (n : Int) = 1 := by omega
    have hq2 : ((n : Int) == 1) = false := beq_eq_false_iff_ne.2 hq1
    go_wp2
    refine bodyPost_ret (v := .tuple #[.bool false, .bool B]) (by simp only [results, Try.results39]; go_simp) rfl ?_
    exact ⟨by simp [hq], hbw2⟩
end Go.Proofs.Ytiafmojmanhdoaa

/- How long what is told of solutions is. -/
namespace Go.Proofs.Ytiafmojmanhdoaa
open Go.RowKit
theorem first_len (m : Int) (l : List ClueV) : ((soL m l).headD []).length ≤ 1048576 := by
  unfold soL
  split
  · next hp =>
    have hm := miB_yes (pzB_yes hp).1
    cases h : solL m l with
    | nil => simp
    | cons a t =>
      have := ris_len9 hm.2 (solL_ris (cs := l) hm.1 (ws := a) (by rw [h]; exact List.mem_cons_self ..))
      simp; omega
  · simp
theorem lf_len (m : Int) (l : List ClueV) (hn : l.length ≤ 1048576) : (lfL m l).length ≤ 1048576 := by
  unfold lfL
  split
  · next hp =>
    have := (pzB_yes hp).2.1
    rw [lfP_len]; omega
  · simp
end Go.Proofs.Ytiafmojmanhdoaa

/- Puzzles: how many are left behind each clue, of the model. -/
namespace Go.Proofs.Ytiafmojmanhdoaa
open Go.ChangeShapes Go.WideShapes Go.ChangeAt Go.RowKit Go.Joins
set_option maxRecDepth 100000
set_option linter.unusedVariables false
set_option linter.unusedSimpArgs false

theorem row_takeC {w : World} {a0 : Option Addr} {c0 : Nat} {cs : List ClueV} (h : RowG 3 fClue w (.slice a0 cs.length c0) cs) (k : Nat) (hk : k ≤ cs.length) : RowG 3 fClue w (.slice a0 k c0) (cs.take k) := by
  have hl : (cs.take k).length = k := by rw [List.length_take]; omega
  rcases h with ⟨hv, rfl⟩ | ⟨a, cap, hv, hL⟩
  · injection hv with e1 e2 e3
    subst e1 e3
    have : k = 0 := by simpa using hk
    subst this
    exact Or.inl ⟨rfl, rfl⟩
  · injection hv with e1 e2 e3
    subst e1 e3
    refine Or.inr ⟨a, c0, by rw [hl], ⟨by rw [hl]; have := hL.hlc; omega, hL.hcap, fun i p hp j y hy => ?_, fun p hp => hL.hbd p (List.mem_of_mem_take hp)⟩⟩
    rw [List.getElem?_take] at hp
    split at hp
    · exact hL.hcell i p hp j y hy
    · cases hp
set_option maxHeartbeats 6400000 in
theorem left_spec (m : Int) (bm : -9223372036854775808 ≤ m ∧ m ≤ 9223372036854775807) (v : Value) (cs : List ClueV) (w : World) (h : RowG 3 fClue w v cs) :
    Calls Try.prog 42 #[.agg #[.int .i64 m, v]] w (AnsG 3 1 fInt (lfL m cs) (pzB m cs) w) := by
  obtain ⟨j0, hj0, hy0, hy1, hy2⟩ := info_parts infoInt
  have HG := Lib.hid (fun W (hB : Below w.heap.size w W) => good9_spec m bm v cs W (rowG_below h hB))
  obtain ⟨a0, c0, rfl, hl1, hl2⟩ := row_shape h
  have HA := Lib.hid (fun (hp : pzB m cs = true) (k : Nat) (hk : k ≤ cs.length) W (hB : Below w.heap.size w W) => all_spec9 m (miB_yes (pzB_yes hp).1).1 (miB_yes (pzB_yes hp).1).2 (.slice a0 k c0) (cs.take k) (fun p hp' => (pzB_yes hp).2.2 p (List.mem_of_mem_take hp')) W (row_takeC (rowG_below h hB) k hk))
  clear h
  cases hp : pzB m cs
  · have e1 : lfL m cs = [] := by simp [lfL, hp]
    rw [hp] at HG
    rw [e1]
    clear e1 hp HA
    go_enter Try.func42, Try.ntmps42
    go_wp2_with fail
    refine (HG.out _ (by (repeat (first | with_reducible exact Below.refl _ _ | with_reducible assumption | with_reducible refine balloc ?_ _ | with_reducible refine bdrew ?_ | with_reducible refine below_drewN ?_ _ | with_reducible refine bset ?_ ?_ _ | with_reducible exact Nat.le_refl _ | with_reducible refine bsize ?_ | (dsimp only; refine Nat.le_trans ?_ (Nat.le_add_right _ _)) | with_reducible refine Nat.le_trans ?_ (Nat.le_add_right _ _) | (with_reducible refine bstep ?_ (by assumption)))))).mono ?_
    rintro e w1 ⟨rfl, hb1⟩
    go_wp2
    refine bodyPost_ret (v := .tuple #[.slice none 0 0, .bool false]) (by simp only [results, Try.results42]; go_simp) rfl ?_
    exact ⟨_, rfl, World.ownsRow_nil _ _ _ _, by (repeat (first | with_reducible exact Below.refl _ _ | with_reducible assumption | with_reducible refine balloc ?_ _ | with_reducible refine bdrew ?_ | with_reducible refine below_drewN ?_ _ | with_reducible refine bset ?_ ?_ _ | with_reducible exact Nat.le_refl _ | with_reducible refine bsize ?_ | (dsimp only; refine Nat.le_trans ?_ (Nat.le_add_right _ _)) | with_reducible refine Nat.le_trans ?_ (Nat.le_add_right _ _) | (with_reducible refine bstep ?_ (by assumption))))⟩
  · have e1 : lfL m cs = lfP m cs (cs.length + 1) := by simp [lfL, hp]
    have hm := miB_yes (pzB_yes hp).1
    have h8 := (pzB_yes hp).2.1
    have HA2 := Lib.hid (HA.out hp)
    rw [hp] at HG
    rw [e1]
    clear e1 hp HA
    obtain ⟨n, hn⟩ : ∃ n, cs.length = n := ⟨_, rfl⟩
    rw [hn] at HA2 HG hl1 h8 ⊢
    clear hn
    go_enter Try.func42, Try.ntmps42
    go_wp2_with fail
    refine (HG.out _ (by (repeat (first | with_reducible exact Below.refl _ _ | with_reducible assumption | with_reducible refine balloc ?_ _ | with_reducible refine bdrew ?_ | with_reducible refine below_drewN ?_ _ | with_reducible refine bset ?_ ?_ _ | with_reducible exact Nat.le_refl _ | with_reducible refine bsize ?_ | (dsimp only; refine Nat.le_trans ?_ (Nat.le_add_right _ _)) | with_reducible refine Nat.le_trans ?_ (Nat.le_add_right _ _) | (with_reducible refine bstep ?_ (by assumption)))))).mono ?_
    rintro e w1 ⟨rfl, hb1⟩
    have hbx1 : Blk w.heap.size #[.int .i64 m, .slice a0 n c0] 41 w1 := (Blk.new w _ _).later hb1
    have hbw1 : Below w.heap.size w w1 := by (repeat (first | with_reducible exact Below.refl _ _ | with_reducible assumption | with_reducible refine balloc ?_ _ | with_reducible refine bdrew ?_ | with_reducible refine below_drewN ?_ _ | with_reducible refine bset ?_ ?_ _ | with_reducible exact Nat.le_refl _ | with_reducible refine bsize ?_ | (dsimp only; refine Nat.le_trans ?_ (Nat.le_add_right _ _)) | with_reducible refine Nat.le_trans ?_ (Nat.le_add_right _ _) | (with_reducible refine bstep ?_ (by assumption))))
    clear hb1
    go_wp2
    go_loopw [4, 5] (fun s x wr => ∃ (k : Nat) (s6 : Value), k ≤ n + 1 ∧ x = .int .i64 k ∧ s6 = s ∧ wr.ownsRow w.heap.size 3 1 s6 k (cellsG fInt (lfP m cs k)) ∧ Blk w.heap.size #[.int .i64 m, .slice a0 n c0] 41 wr ∧ Below w.heap.size w wr) (fun _ x _ => n + 1 - (intOf x).toNat)
    case atStart => exact ⟨0, _, Nat.zero_le _, rfl, rfl, World.ownsRow_nil _ _ _ _, hbx1, hbw1⟩
    case round =>
      obtain ⟨k, s6, hk, rfl, rfl, hown6, hbx6, hbw6⟩ := hrel
      clear hbx1 hbw1
      obtain ⟨s6a, s6c, rfl⟩ := owns_shape hown6
      have c0' := hbx6.cell 0
      have c1' := hbx6.cell 1
      simp at c0' c1'
      by_cases hlt : k ≤ n
      · have hkc : k ≤ c0 := by omega
        have hki : (k : Int) ≤ (c0 : Int) := by omega
        have hkj : (k : Int) ≤ (n : Int) := by omega
        have hlf := Lib.hid (lfP_succ m cs k)
        have HAk := Lib.hid (HA2.out k hlt)
        have hle := Lib.hid (solL_len hm.2 (cs.take k))
        generalize solL m (cs.take k) = L at *
        go_upto_region 7 with fail
        refine wp_region_noPanic ?_
        refine wp_region_T 11 (fun V => V.cell? ⟨w.heap.size, 0, none⟩ = some (.int .i64 m) ∧ V.cell? ⟨w.heap.size, 1, none⟩ = some (.slice a0 n c0)) (by kernel_rfl) ⟨by simpa using hbx6.cell 0, by simpa using hbx6.cell 1⟩ (fun hHeld => ?_)
        (refine wpAnyT_take (i := 0) (v := ?_) (by rfl) (by kernel_rfl) (by kernel_rfl) (by kernel_rfl) (by kernel_rfl) (fun _ _ _ h => h) (Or.inl ⟨by rfl, ?_⟩) (by assumption) ?_; rotate_left; (focus (intro w hSw; (try dsimp only at hSw); go_simp; (try with_reducible rfl))); (try simp only [Act.put, List.setIfInBounds_toArray, List.set_cons_zero, List.set_cons_succ]))
        (refine wpAnyT_take (i := 1) (v := ?_) (by rfl) (by kernel_rfl) (by kernel_rfl) (by kernel_rfl) (by kernel_rfl) (fun _ _ _ h => h) (Or.inl ⟨by rfl, ?_⟩) (by assumption) ?_; rotate_left; (focus (intro w hSw; (try dsimp only at hSw); go_simp; (try with_reducible rfl))); (try simp only [Act.put, List.setIfInBounds_toArray, List.set_cons_zero, List.set_cons_succ]))
        (refine wpAnyT_take (i := 2) (v := ?_) (by rfl) (by kernel_rfl) (by kernel_rfl) (by kernel_rfl) (by kernel_rfl) (fun _ _ _ h => h) (Or.inl ⟨by rfl, ?_⟩) (by assumption) ?_; rotate_left; (focus (intro w hSw; (try dsimp only at hSw); go_simp; (try with_reducible rfl))); (try simp only [Act.put, List.setIfInBounds_toArray, List.set_cons_zero, List.set_cons_succ]))
        (refine wpAnyT_take (i := 3) (v := ?_) (by rfl) (by kernel_rfl) (by kernel_rfl) (by kernel_rfl) (by kernel_rfl) (fun _ _ _ h => h) (Or.inl ⟨by rfl, ?_⟩) (by assumption) ?_; rotate_left; (focus (intro w hSw; (try dsimp only at hSw); go_simp; (try with_reducible rfl))); (try simp only [Act.put, List.setIfInBounds_toArray, List.set_cons_zero, List.set_cons_succ]))
        (refine wpAnyT_take (i := 4) (v := ?_) (by rfl) (by kernel_rfl) (by kernel_rfl) (by kernel_rfl) (by kernel_rfl) (fun _ _ _ h => h) (Or.inl ⟨by rfl, ?_⟩) (by assumption) ?_; rotate_left; (focus (intro w hSw; (try dsimp only at hSw); go_simp; (try with_reducible rfl))); (try simp only [Act.put, List.setIfInBounds_toArray, List.set_cons_zero, List.set_cons_succ]))
        (refine wpAnyT_take (i := 5) (v := ?_) (by rfl) (by kernel_rfl) (by kernel_rfl) (by kernel_rfl) (by kernel_rfl) (fun _ _ _ h => h) (Or.inl ⟨by rfl, ?_⟩) (by assumption) ?_; rotate_left; (focus (intro w hSw; (try dsimp only at hSw); go_simp; (try with_reducible rfl))); (try simp only [Act.put, List.setIfInBounds_toArray, List.set_cons_zero, List.set_cons_succ]))
        (refine wpAnyT_take (i := 6) (v := ?_) (by rfl) (by kernel_rfl) (by kernel_rfl) (by kernel_rfl) (by kernel_rfl) (fun _ _ _ h => h) (Or.inl ⟨by rfl, ?_⟩) (by assumption) ?_; rotate_left; (focus (intro w hSw; (try dsimp only at hSw); go_simp; (try with_reducible rfl))); (try simp only [Act.put, List.setIfInBounds_toArray, List.set_cons_zero, List.set_cons_succ]))
        (refine wpAnyT_one (i := 7) (by kernel_rfl) (by rfl) (fun K hK => ?_); go_simp; (refine Calls.mono (HAk.out _ (show Below w.heap.size w _ by (repeat (first | with_reducible exact Below.refl _ _ | with_reducible assumption | with_reducible refine balloc ?_ _ | with_reducible refine bdrew ?_ | with_reducible refine below_drewN ?_ _ | with_reducible refine bset ?_ ?_ _ | with_reducible exact Nat.le_refl _ | with_reducible refine bsize ?_ | (dsimp only; refine Nat.le_trans ?_ (Nat.le_add_right _ _)) | with_reducible refine Nat.le_trans ?_ (Nat.le_add_right _ _) | (with_reducible refine bstep ?_ (by assumption)))))) ?_; rintro e w4 ⟨v4, Z4, rfl, hr4, hm4, hb4⟩; (obtain ⟨a4, c4, hv4⟩ := owns_shape hr4.out); (obtain ⟨n4, hn4⟩ : ∃ n, Z4.length = n := ⟨_, rfl⟩); (rw [hn4] at hv4); subst hv4; (have hlen4 := Lib.hid (show L.length = n4 by rw [← hm4.out, List.length_map, hn4])); (have hbel4 : Below wr.heap.size wr w4 := by (repeat (first | with_reducible exact Below.refl _ _ | with_reducible assumption | with_reducible refine balloc ?_ _ | with_reducible refine bdrew ?_ | with_reducible refine below_drewN ?_ _ | with_reducible refine bset ?_ ?_ _ | with_reducible exact Nat.le_refl _ | with_reducible refine bsize ?_ | (dsimp only; refine Nat.le_trans ?_ (Nat.le_add_right _ _)) | with_reducible refine Nat.le_trans ?_ (Nat.le_add_right _ _) | (with_reducible refine bstep ?_ (by assumption))))); clear hr4 hm4 hn4); (try go_wp2_with fail); refine hK.out _ _ (Or.inr (by (exact ⟨by simpa using (hbx6.later hbel4).cell 0, by simpa using (hbx6.later hbel4).cell 1⟩))) (fun hHeld => ?_); replace hHeld := hHeld.resolve_left (by decide); clear hK; clear K; (try simp only [Act.put, List.setIfInBounds_toArray, List.set_cons_zero, List.set_cons_succ]))
        have hn4b : n4 ≤ 512 := by have := hle.out; have := hlen4.out; omega
        (refine wpAnyT_take (i := 8) (v := ?_) (by rfl) (by kernel_rfl) (by kernel_rfl) (by kernel_rfl) (by kernel_rfl) (fun _ _ _ h => h) (Or.inl ⟨by rfl, ?_⟩) (by assumption) ?_; rotate_left; (focus (intro w hSw; (try dsimp only at hSw); go_simp; (try with_reducible rfl))); (try simp only [Act.put, List.setIfInBounds_toArray, List.set_cons_zero, List.set_cons_succ]))
        have hb5 : Below w4.heap.size w4 (w4.alloc (.cells #[.int .i64 (n4 : Int)] 3)) := balloc (Below.refl _ _) _
        have hbx5 := (hbx6.later hbel4).later hb5
        have hown5 := ownsRow_below (ownsRow_below hown6 hbel4) hb5
        (refine wpAnyT_one (i := 9) (by kernel_rfl) (by rfl) (fun K hK => ?_); go_simp; skip; (try go_wp2_with fail); refine hK.out _ _ (Or.inr (by (exact ⟨by simpa using hbx5.cell 0, by simpa using hbx5.cell 1⟩))) (fun hHeld => ?_); replace hHeld := hHeld.resolve_left (by decide); clear hK; clear K; (try simp only [Act.put, List.setIfInBounds_toArray, List.set_cons_zero, List.set_cons_succ]))
        refine wpAnyT_one (i := 10) (by kernel_rfl) (by rfl) (fun K hK => ?_)
        refine step_append_own rfl (.tmp 16) (.tmp 25) 24 rfl w.heap.size 3 j0 (.int .i64 0) 1 8 Try.underlying24 hj0 hy0 hy1 hy2 rfl (by decide) (.slice s6a k s6c) k (cellsG fInt (lfP m cs k)) ?c6 hown5 ⟨w4.heap.size, 0, none⟩ 1 1 [.int .i64 (n4 : Int)] ?c7 rfl ?c1 ?c2 ?c3 ?c4 ?c5 ?_
        case c6 => simp [Act.eval, Act.put]
        case c7 => simp [Act.eval, Act.put]; done
        case c1 => first | exact cell_one_new _ _ _ | (intro j u hj; rcases j with _ | j <;> simp at hj; subst hj; simp [go_sem]; done)
        case c2 => simp [Value.oneCell']
        case c3 => unfold maxLen; omega
        case c4 => omega
        case c5 => exact Nat.le_trans hbw6.size (Nat.le_trans hbel4.size hb5.size)
        intro v6 w7 hown7 hgr7
        have hbx7 : Blk w.heap.size #[.int .i64 m, .slice a0 n c0] 41 w7 := (hgr7.block w.heap.size hbx5.lt (fun e => neT hown5 hbx5 (by decide) e.symm)).trans hbx5
        have hbw7 : Below w.heap.size w w7 := grown_bel (bstep (bstep hbw6 hbel4) hb5) hgr7 hown5 (Nat.le_refl _)
        have hown7' : w7.ownsRow w.heap.size 3 1 v6 (k + 1) (cellsG fInt (lfP m cs (k + 1))) := by rw [hlf.out, cellsG_append, hlen4.out]; exact hown7
        refine hK.out _ _ (Or.inr ⟨by simpa using hbx7.cell 0, by simpa using hbx7.cell 1⟩) (fun hHeld => ?_)
        clear hK
        clear K
        (try simp only [Act.put, List.setIfInBounds_toArray, List.set_cons_zero, List.set_cons_succ])
        obtain ⟨v6a, v6c, rfl⟩ := owns_shape hown7'
        refine wpAnyT_one (i := 11) (by kernel_rfl) (by rfl) (fun K hK => ?_)
        go_simp
        refine hK.out _ _ (Or.inl rfl) (fun _ => ?_)
        refine wpAnyT_done (by kernel_rfl) ?_ _
        refine NoPanic.normal ?_
        clear hK
        clear K
        clear hown5 hbx5 hb5 hown7 hgr7 hown6 hbx6 hbw6
        go_wp2
        go_roundw
        case rel => exact ⟨k + 1, _, by omega, by go_num, rfl, hown7', hbx7, hbw7⟩
        case measure => simp [intOf]; omega
      · have hkn : k = n + 1 := by omega
        subst hkn
        have hown7 : wr.ownsRow w.heap.size 3 1 (.slice s6a (n + 1) s6c) (lfP m cs (n + 1)).length (cellsG fInt (lfP m cs (n + 1))) := by rw [lfP_len]; exact hown6
        go_wp2
        refine bodyPost_ret (v := .tuple #[.slice s6a (n + 1) s6c, .bool true]) (by simp only [results, Try.results42]; go_simp) rfl ?_
        exact ⟨_, rfl, hown7, hbw6⟩
/-- The clues without one. -/
def woL (cs : List ClueV) (k : Nat) : List ClueV := cs.take k ++ cs.drop (k + 1)
theorem woL_mem {cs : List ClueV} {k : Nat} {p : ClueV} (h : p ∈ woL cs k) : p ∈ cs := by
  rcases List.mem_append.1 h with h | h
  · exact List.mem_of_mem_take h
  · exact List.mem_of_mem_drop h
theorem woL_ok {m : Int} {cs : List ClueV} (h : pzB m cs = true) (k : Nat) (hk : k < cs.length) : pzB m (woL cs k) = true := by
  obtain ⟨h1, h2, h3⟩ := pzB_yes h
  refine pzB_all h1 (by rw [woL, List.length_append, List.length_take, List.length_drop]; omega) (fun j p _ hp => h3 p (woL_mem (List.mem_of_getElem? hp)))
/-- Which clues are needless. -/
def ndAt (m : Int) (cs : List ClueV) (k : Nat) : Bool := decide ((solL m (woL cs k)).length = (solL m cs).length)
def ndP (m : Int) (cs : List ClueV) (k : Nat) : List Int := ((List.range k).filter (ndAt m cs)).map (fun (j : Nat) => (j : Int))
theorem ndP_succ (m : Int) (cs : List ClueV) (k : Nat) : ndP m cs (k + 1) = ndP m cs k ++ (if ndAt m cs k = true then [(k : Int)] else []) := by
  simp only [ndP, List.range_succ, List.filter_append, List.map_append]
  congr 1
  by_cases h : ndAt m cs k = true
  · rw [if_pos h]; simp [h]
  · rw [if_neg h]; simp [h]
theorem ndP_len (m : Int) (cs : List ClueV) (k : Nat) : (ndP m cs k).length ≤ k := by
  rw [ndP, List.length_map]
  exact Nat.le_trans (List.length_filter_le ..) (by simp)
def ndL (m : Int) (cs : List ClueV) : List Int := if pzB m cs = true then ndP m cs cs.length else []
end Go.Proofs.Ytiafmojmanhdoaa

/- Two lists of clues put together by the library. -/
namespace Go.Proofs.Ytiafmojmanhdoaa
open Go.ChangeShapes Go.WideShapes Go.ChangeAt Go.RowKit Go.Joins
set_option maxRecDepth 100000
set_option linter.unusedVariables false
set_option linter.unusedSimpArgs false

set_option maxHeartbeats 1600000 in
theorem catK_grow (n : Nat) (hn : n ≤ 2097152) (w : World) :
    Calls Try.prog 108 #[.slice none 0 0, .int .i64 n] w (EndL 27 3 fClue ([] : List ClueV) w) := by
  obtain ⟨i0, hi, hz0, hz1, hz2⟩ := info_parts infoClue
  by_cases h0 : n = 0
  · subst h0
    go_enter Try.func108, Try.ntmps108
    go_wp2
    go_ret
    exact ⟨_, rfl, World.ownsRow_nil _ _ _ _, Below.refl _ _⟩
  · have hcap0 : n ≤ grownCap w n 0 27 := grownCap_ge w _ _ _
    have hcapM : grownCap w n 0 27 ≤ maxLen := grownCap_le_maxLen w n 0 27 (by unfold maxLen; omega)
    have hrz : ∀ ty, (Builtin.append_ #[39, 3] ty #[.slice none 0 0, .int .i64 (n : Int)]).run Try.prog w =
        .ok (.slice (some ⟨w.heap.size, 0, none⟩) n (grownCap w n 0 27)) (w.drew.alloc (.cells (Builtin.zeroCells (.agg #[.int .i64 0, .int .i64 0, .int .i64 0] : Value).cells n ++ Builtin.zeroCells (.agg #[.int .i64 0, .int .i64 0, .int .i64 0] : Value).cells (grownCap w n 0 27 - n)) 27)) := fun ty => by
      have h := Lib.run_append_grow_zeros (P := Try.prog) w 39 3 ty 27 i0 _ .i64 .i64 Try.underlying39 Try.underlying3 hi hz0 none 0 0 [] (run_firstCells_none _ _ _ _ _) n (by omega) (by rw [hz1]; omega) (by omega) (by omega)
        (by rw [hz2]; omega) (by rw [hz2]; rw [show 0 + n = n by omega]; exact growslice_fits (by omega) (by omega))
      rw [show 0 + n = n by omega] at h
      simpa using h
    obtain ⟨G, hG⟩ : ∃ G, G = grownCap w n 0 27 := ⟨_, rfl⟩
    rw [← hG] at hrz hcap0 hcapM
    unfold maxLen at hcapM
    clear hG
    go_enter Try.func108, Try.ntmps108
    go_wp2_with (at_builtin; refine Lib.wpList_append_run _ rfl _ _ _ _ rfl _ _ rfl rfl _ _ (hrz _) ?_)
    all_goals
      go_ret
      refine ⟨_, rfl, ?_, by (repeat (first | with_reducible exact Below.refl _ _ | with_reducible assumption | with_reducible refine balloc ?_ _ | with_reducible refine bdrew ?_ | with_reducible refine below_drewN ?_ _ | with_reducible refine bset ?_ ?_ _ | with_reducible exact Nat.le_refl _ | with_reducible refine bsize ?_ | (dsimp only; refine Nat.le_trans ?_ (Nat.le_add_right _ _)) | with_reducible refine Nat.le_trans ?_ (Nat.le_add_right _ _) | (with_reducible refine bstep ?_ (by assumption))))⟩
      exact World.ownsRow_made w.drew _ G (by simp) (by unfold maxLen; omega) (by simp [size_zeroCells, Value.cells]; omega)
set_option maxHeartbeats 3200000 in
theorem catK_two (g : Nat) (v1 v2 : Value) (l1 l2 : List ClueV) (w : World) (hc1 : w.cell? ⟨g, 0, none⟩ = some v1) (hc2 : w.cell? ⟨g, 1, none⟩ = some v2) (h1 : RowG 3 fClue w v1 l1) (h2 : RowG 3 fClue w v2 l2) (hn : l1.length + l2.length ≤ 1048576) :
    Calls Try.prog 98 #[.slice (some ⟨g, 0, none⟩) 2 2] w (EndL 27 3 fClue (l1 ++ l2) w) := by
  obtain ⟨i0, hi, hz0, hz1, hz2⟩ := info_parts infoClue
  have hg : g < w.heap.size := cell_lt hc1
  obtain ⟨a1, k1, hv1, d1, e1⟩ := row_shape h1
  obtain ⟨a2, k2, hv2, d2, e2⟩ := row_shape h2
  have HG := Lib.hid (fun W => catK_grow (l1.length + l2.length) (by omega) W)
  have hc1' := hc1
  have hc2' := hc2
  rw [hv1] at hc1'
  rw [hv2] at hc2'
  go_enter Try.func98, Try.ntmps98
  go_wp2
  go_loopw [3, 5, 11] (fun sz u i wr => ∃ j : Nat, j ≤ 2 ∧ i = .int .i64 j ∧ sz = .int .i64 (((if 0 < j then l1.length else 0) + (if 1 < j then l2.length else 0) : Nat) : Int) ∧ wr = w) (fun _ _ i _ => 2 - (intOf i).toNat)
  case atStart => exact ⟨0, by omega, rfl, by simp, rfl⟩
  case round =>
    obtain ⟨j, hj, rfl, rfl, hw⟩ := hrel
    replace hw := hw.symm
    subst hw
    rcases (show j = 0 ∨ j = 1 ∨ j = 2 by omega) with rfl | rfl | rfl
    · go_wp2
      go_roundw
      case rel => refine ⟨1, by omega, by go_num, by simp, ?_⟩; first | rfl | trivial
      case measure => simp [intOf]
    · go_wp2
      go_roundw
      case rel => refine ⟨2, by omega, by go_num, by simp, ?_⟩; first | rfl | trivial
      case measure => simp [intOf]
    · go_wp2_with fail
      refine (HG.out _).mono ?_
      rintro e w1 ⟨v, rfl, hown, hb1⟩
      clear HG
      obtain ⟨aq, cq, rfl⟩ := owns_shape hown
      have c0 : w1.cell? ⟨g, 0, none⟩ = some v1 := keepa hb1 hg hc1
      have c1 : w1.cell? ⟨g, 1, none⟩ = some v2 := keepa hb1 hg hc2
      clear hc1' hc2'
      go_wp2
      go_loopw [6, 8, 27] (fun v u i wr => ∃ j : Nat, j ≤ 2 ∧ i = .int .i64 j ∧ wr.ownsRow w.heap.size 27 3 v (if 1 < j then (l1 ++ l2) else if 0 < j then l1 else []).length (cellsG fClue (if 1 < j then (l1 ++ l2) else if 0 < j then l1 else [])) ∧ Below w.heap.size w wr) (fun _ _ i _ => 2 - (intOf i).toNat)
      case atStart => exact ⟨0, by omega, rfl, by simpa using hown, hb1⟩
      case round =>
        obtain ⟨j, hj, rfl, hown, hbel⟩ := hrel
        have hg1 : g < w1.heap.size := cell_lt c0
        have c0 : wr.cell? ⟨g, 0, none⟩ = some v1 := keepa (W0 := w) hbel hg hc1
        have c1 : wr.cell? ⟨g, 1, none⟩ = some v2 := keepa (W0 := w) hbel hg hc2
        rcases (show j = 0 ∨ j = 1 ∨ j = 2 by omega) with rfl | rfl | rfl
        · simp only [Nat.lt_irrefl, if_true, if_false, Nat.zero_lt_one, Nat.one_lt_two, Nat.lt_irrefl, Nat.not_lt_zero, Nat.reduceLT, List.length_nil] at hown
          obtain ⟨aq, cq, rfl⟩ := owns_shape hown
          have hR := rowG_below h1 hbel
          have hsz := hbel.size
          rcases hR with ⟨hv, hl⟩ | ⟨ad, cap, hv, hL⟩
          · rw [hv] at c0
            have hl2 := Lib.hid hl
            have hv2 := Lib.hid hv
            clear hl hv
            go_wp2_with (at_builtin; refine wpList_append_own_none rfl _ _ 39 rfl w.heap.size 27 i0 3 Try.underlying39 hi _ _ _ rfl hown rfl ?_)
            go_roundw
            case rel =>
              refine ⟨1, by omega, by go_num, ?_, hbel⟩
              have hl := hl2.out
              simpa [hl, cellsG] using hown
            case measure => simp [intOf]
          · rw [hv] at c0
            have hv2 := Lib.hid hv
            clear hv
            have hlc := hL.hlc
            have hcp := hL.hcap
            go_wp2_with (at_builtin; go_loud (refine wpList_append_own _ rfl _ _ 39 rfl w.heap.size 27 i0 (.agg #[.int .i64 0, .int .i64 0, .int .i64 0]) 3 24 Try.underlying39 hi hz0 hz1 hz2 rfl (by decide) _ _ _ rfl hown ad l1.length cap (cellsG fClue l1) rfl (cellsG_len fClue_len l1) (liesG_cells fClue_len (by decide) hL) (cellsG_one fClue l1) (by unfold maxLen; omega) (by omega) hsz ?_))
            intro v' w2 hown2 hgr hnil
            have hbel2 := hbel.grown hgr hbel.size (fun k e => (hown.lt k e).1)
            obtain ⟨ar, cr, rfl⟩ := owns_shape hown2
            go_wp2
            go_roundw
            case rel =>
              refine ⟨1, by omega, by go_num, ?_, hbel2⟩
              simpa [cellsG] using hown2
            case measure => simp [intOf]
        · simp only [if_true, if_false, Nat.zero_lt_one, Nat.one_lt_two, Nat.lt_irrefl, Nat.not_lt_zero, Nat.reduceLT, List.length_nil] at hown
          obtain ⟨aq, cq, rfl⟩ := owns_shape hown
          have hR := rowG_below h2 hbel
          have hsz := hbel.size
          rcases hR with ⟨hv, hl⟩ | ⟨ad, cap, hv, hL⟩
          · rw [hv] at c1
            have hl2 := Lib.hid hl
            have hv2 := Lib.hid hv
            clear hl hv
            go_wp2_with (at_builtin; refine wpList_append_own_none rfl _ _ 39 rfl w.heap.size 27 i0 3 Try.underlying39 hi _ _ _ rfl hown rfl ?_)
            go_roundw
            case rel =>
              refine ⟨2, by omega, by go_num, ?_, hbel⟩
              have hl := hl2.out
              simpa [hl, cellsG] using hown
            case measure => simp [intOf]
          · rw [hv] at c1
            have hv2 := Lib.hid hv
            clear hv
            have hlc := hL.hlc
            have hcp := hL.hcap
            go_wp2_with (at_builtin; go_loud (refine wpList_append_own _ rfl _ _ 39 rfl w.heap.size 27 i0 (.agg #[.int .i64 0, .int .i64 0, .int .i64 0]) 3 24 Try.underlying39 hi hz0 hz1 hz2 rfl (by decide) _ _ _ rfl hown ad l2.length cap (cellsG fClue l2) rfl (cellsG_len fClue_len l2) (liesG_cells fClue_len (by decide) hL) (cellsG_one fClue l2) (by unfold maxLen; omega) (by omega) hsz ?_))
            intro v' w2 hown2 hgr hnil
            have hbel2 := hbel.grown hgr hbel.size (fun k e => (hown.lt k e).1)
            obtain ⟨ar, cr, rfl⟩ := owns_shape hown2
            go_wp2
            go_roundw
            case rel =>
              refine ⟨2, by omega, by go_num, ?_, hbel2⟩
              simpa [cellsG] using hown2
            case measure => simp [intOf]
        · simp only [if_true, if_false, Nat.zero_lt_one, Nat.one_lt_two, Nat.lt_irrefl, Nat.not_lt_zero, Nat.reduceLT] at hown
          obtain ⟨aq, cq, rfl⟩ := owns_shape hown
          go_wp2
          go_ret
          exact ⟨_, rfl, hown, hbel⟩
end Go.Proofs.Ytiafmojmanhdoaa

/- DropClue, of the program and of the model. -/
namespace Go.Proofs.Ytiafmojmanhdoaa
open Go.ChangeShapes Go.WideShapes Go.ChangeAt Go.RowKit Go.Joins
set_option maxRecDepth 100000
set_option linter.unusedVariables false
set_option linter.unusedSimpArgs false


def drB (m : Int) (l : List ClueV) (k : Int) : Bool := pzB m l && inB k 0 ((l.length : Int) - 1)
def drM (m : Int) (l : List ClueV) (k : Int) : Int := if drB m l k = true then m else 0
def drL (m : Int) (l : List ClueV) (k : Int) : List ClueV := if drB m l k = true then l.take k.toNat ++ l.drop (k.toNat + 1) else []
theorem drL_no {m : Int} {l : List ClueV} {k : Int} (h : drB m l k = false) : drL m l k = [] := by simp [drL, h]
theorem drM_no {m : Int} {l : List ClueV} {k : Int} (h : drB m l k = false) : drM m l k = 0 := by simp [drM, h]
theorem drM_yes {m : Int} {l : List ClueV} {k : Int} (h : drB m l k = true) : drM m l k = m := by simp [drM, h]
theorem drL_yes {m : Int} {l : List ClueV} {n : Nat} (h : drB m l n = true) : drL m l n = l.take n ++ l.drop (n + 1) := by simp [drL, h]
theorem drL_len (m : Int) (l : List ClueV) (k : Int) (h : l.length ≤ 1048576) : (drL m l k).length ≤ 1048576 := by
  unfold drL
  split
  · rw [List.length_append, List.length_drop, List.length_take]; omega
  · simp
theorem lies_nilG {α : Type} {m : Nat} {f : α → List Int} {W : World} {a : Addr} {cap : Nat} (hc : cap ≤ 9223372036854775807) : LiesG m f W a cap ([] : List α) := ⟨by simp, hc, fun i p hp => by simp at hp, fun p hp => by simp at hp⟩
theorem lies_tailG {α : Type} {m : Nat} {f : α → List Int} {W : World} {a : Addr} {cap : Nat} {l : List α} (h : LiesG m f W a cap l) {i : Nat} (hi : i < l.length) (Ad : Addr) (hA : (cap = i + 1 ∧ Ad = a) ∨ (¬ cap = i + 1 ∧ Ad = a.add ((i + 1) * m))) : LiesG m f W Ad (cap - (i + 1)) (l.drop (i + 1)) := by
  have hlc := h.hlc
  rcases hA with ⟨hc, rfl⟩ | ⟨hc, rfl⟩
  · rw [List.drop_of_length_le (by omega)]
    exact lies_nilG (by have := h.hcap; omega)
  · exact liesG_drop h (i + 1) (by omega)
theorem rowG_some {w : World} {v : Value} {l : List ClueV} (h : RowG 3 fClue w v l) (h0 : 0 < l.length) : ∃ a cap, v = .slice (some a) l.length cap ∧ LiesG 3 fClue w a cap l := by
  rcases h with ⟨rfl, rfl⟩ | ⟨a, cap, rfl, hL⟩
  · simp at h0
  · exact ⟨a, cap, rfl, hL⟩
set_option maxHeartbeats 6400000 in
theorem drop_impl (m : Int) (bm : (-9223372036854775808 ≤ m ∧ m ≤ 9223372036854775807)) (v : Value) (l : List ClueV) (k : Int) (bk : (-9223372036854775808 ≤ k ∧ k ≤ 9223372036854775807)) (w : World) (h : RowG 3 fClue w v l) :
    Calls Try.prog 69 #[.agg #[.int .i64 m, v], .int .i64 k] w (AnsP (drM m l k) (drL m l k) (drB m l k) w) := by
  obtain ⟨i0, hi, hz0, hz1, hz2⟩ := info_parts infoClue
  have HR := Lib.hid (fun W (hB : Below w.heap.size w W) => isPz_impl m bm v l W (rowG_below h hB))
  cases hr : pzB m l
  · have hb : drB m l k = false := by simp [drB, hr]
    rw [drL_no hb, drM_no hb, hb]
    rw [hr] at HR
    obtain ⟨a0, c0, rfl, hl1, hl2⟩ := row_shape h
    clear h hb hr
    go_enter Try.func69, Try.ntmps69
    go_wp2_with fail
    refine (HR.out _ (by (repeat (first | with_reducible exact Below.refl _ _ | with_reducible assumption | with_reducible refine balloc ?_ _ | with_reducible refine bdrew ?_ | with_reducible refine below_drewN ?_ _ | with_reducible refine bset ?_ ?_ _ | with_reducible exact Nat.le_refl _ | with_reducible refine bsize ?_ | (dsimp only; refine Nat.le_trans ?_ (Nat.le_add_right _ _)) | with_reducible refine Nat.le_trans ?_ (Nat.le_add_right _ _) | (with_reducible refine bstep ?_ (by assumption)))))).mono ?_
    rintro e w1 ⟨rfl, hb1⟩
    obtain ⟨kc1, kf1, kz1, ky1, kx1, kv1, ku1⟩ := bcell hb1
    have ha1 : Below w.heap.size w w1 := by (repeat (first | with_reducible exact Below.refl _ _ | with_reducible assumption | with_reducible refine balloc ?_ _ | with_reducible refine bdrew ?_ | with_reducible refine below_drewN ?_ _ | with_reducible refine bset ?_ ?_ _ | with_reducible exact Nat.le_refl _ | with_reducible refine bsize ?_ | (dsimp only; refine Nat.le_trans ?_ (Nat.le_add_right _ _)) | with_reducible refine Nat.le_trans ?_ (Nat.le_add_right _ _) | (with_reducible refine bstep ?_ (by assumption))))
    have q1_h_0 : w1.cell? ⟨w.heap.size, 0, none⟩ = some (.int .i64 m) := by rw [kc1 _ _ (by first | assumption | (simp; done) | (simp; omega) | omega)]; simp [go_sem]
    have r1_h_0 : w1.frozen? ⟨w.heap.size, 0, none⟩ = false := by rw [kf1 _ _ (by first | assumption | (simp; done) | (simp; omega) | omega)]; simp [go_sem]
    have q1_h_1 : w1.cell? ⟨w.heap.size, 1, none⟩ = some (.slice a0 l.length c0) := by rw [kc1 _ _ (by first | assumption | (simp; done) | (simp; omega) | omega)]; simp [go_sem]
    have r1_h_1 : w1.frozen? ⟨w.heap.size, 1, none⟩ = false := by rw [kf1 _ _ (by first | assumption | (simp; done) | (simp; omega) | omega)]; simp [go_sem]
    have z1_h : w.heap.size < w1.heap.size := kz1 _ (by first | assumption | (simp; done) | (simp; omega) | omega)
    have q1_h_1_0 : w1.cell? ⟨w.heap.size + 1, 0, none⟩ = some (.int .i64 0) := by rw [kc1 _ _ (by first | assumption | (simp; done) | (simp; omega) | omega)]; simp [go_sem]
    have r1_h_1_0 : w1.frozen? ⟨w.heap.size + 1, 0, none⟩ = false := by rw [kf1 _ _ (by first | assumption | (simp; done) | (simp; omega) | omega)]; simp [go_sem]
    have q1_h_1_1 : w1.cell? ⟨w.heap.size + 1, 1, none⟩ = some (.slice none 0 0) := by rw [kc1 _ _ (by first | assumption | (simp; done) | (simp; omega) | omega)]; simp [go_sem]
    have r1_h_1_1 : w1.frozen? ⟨w.heap.size + 1, 1, none⟩ = false := by rw [kf1 _ _ (by first | assumption | (simp; done) | (simp; omega) | omega)]; simp [go_sem]
    have z1_h_1 : w.heap.size + 1 < w1.heap.size := kz1 _ (by first | assumption | (simp; done) | (simp; omega) | omega)
    clear kc1 kf1 kz1 ky1 kx1 kv1 ku1 hb1
    go_wp2
    refine bodyPost_ret (v := .tuple #[.agg #[.int .i64 0, .slice none 0 0], .bool false]) (by simp only [results, Try.results69]; go_simp) rfl ?_
    exact ⟨_, rfl, ⟨rfl, .inl ⟨rfl, rfl⟩⟩, by (repeat (first | with_reducible exact Below.refl _ _ | with_reducible assumption | with_reducible refine balloc ?_ _ | with_reducible refine bdrew ?_ | with_reducible refine below_drewN ?_ _ | with_reducible refine bset ?_ ?_ _ | with_reducible exact Nat.le_refl _ | with_reducible refine bsize ?_ | (dsimp only; refine Nat.le_trans ?_ (Nat.le_add_right _ _)) | with_reducible refine Nat.le_trans ?_ (Nat.le_add_right _ _) | (with_reducible refine bstep ?_ (by assumption))))⟩
  · have hle := pzB_yes hr
    rw [hr] at HR
    cases hk : inB k 0 ((l.length : Int) - 1)
    · have hb : drB m l k = false := by simp [drB, hr, hk]
      rw [drL_no hb, drM_no hb, hb]
      have HK := Lib.hid hk
      obtain ⟨a0, c0, rfl, hl1, hl2⟩ := row_shape h
      clear hb hr hk h
      have hl8 := hle.2.1
      clear hle
      generalize l.length = n at *
      go_enter Try.func69, Try.ntmps69
      go_wp2_with fail
      refine (HR.out _ (by (repeat (first | with_reducible exact Below.refl _ _ | with_reducible assumption | with_reducible refine balloc ?_ _ | with_reducible refine bdrew ?_ | with_reducible refine below_drewN ?_ _ | with_reducible refine bset ?_ ?_ _ | with_reducible exact Nat.le_refl _ | with_reducible refine bsize ?_ | (dsimp only; refine Nat.le_trans ?_ (Nat.le_add_right _ _)) | with_reducible refine Nat.le_trans ?_ (Nat.le_add_right _ _) | (with_reducible refine bstep ?_ (by assumption)))))).mono ?_
      rintro e w1 ⟨rfl, hb1⟩
      obtain ⟨kc1, kf1, kz1, ky1, kx1, kv1, ku1⟩ := bcell hb1
      have ha1 : Below w.heap.size w w1 := by (repeat (first | with_reducible exact Below.refl _ _ | with_reducible assumption | with_reducible refine balloc ?_ _ | with_reducible refine bdrew ?_ | with_reducible refine below_drewN ?_ _ | with_reducible refine bset ?_ ?_ _ | with_reducible exact Nat.le_refl _ | with_reducible refine bsize ?_ | (dsimp only; refine Nat.le_trans ?_ (Nat.le_add_right _ _)) | with_reducible refine Nat.le_trans ?_ (Nat.le_add_right _ _) | (with_reducible refine bstep ?_ (by assumption))))
      have q1_h_0 : w1.cell? ⟨w.heap.size, 0, none⟩ = some (.int .i64 m) := by rw [kc1 _ _ (by first | assumption | (simp; done) | (simp; omega) | omega)]; simp [go_sem]
      have r1_h_0 : w1.frozen? ⟨w.heap.size, 0, none⟩ = false := by rw [kf1 _ _ (by first | assumption | (simp; done) | (simp; omega) | omega)]; simp [go_sem]
      have q1_h_1 : w1.cell? ⟨w.heap.size, 1, none⟩ = some (.slice a0 n c0) := by rw [kc1 _ _ (by first | assumption | (simp; done) | (simp; omega) | omega)]; simp [go_sem]
      have r1_h_1 : w1.frozen? ⟨w.heap.size, 1, none⟩ = false := by rw [kf1 _ _ (by first | assumption | (simp; done) | (simp; omega) | omega)]; simp [go_sem]
      have z1_h : w.heap.size < w1.heap.size := kz1 _ (by first | assumption | (simp; done) | (simp; omega) | omega)
      have q1_h_1_0 : w1.cell? ⟨w.heap.size + 1, 0, none⟩ = some (.int .i64 0) := by rw [kc1 _ _ (by first | assumption | (simp; done) | (simp; omega) | omega)]; simp [go_sem]
      have r1_h_1_0 : w1.frozen? ⟨w.heap.size + 1, 0, none⟩ = false := by rw [kf1 _ _ (by first | assumption | (simp; done) | (simp; omega) | omega)]; simp [go_sem]
      have q1_h_1_1 : w1.cell? ⟨w.heap.size + 1, 1, none⟩ = some (.slice none 0 0) := by rw [kc1 _ _ (by first | assumption | (simp; done) | (simp; omega) | omega)]; simp [go_sem]
      have r1_h_1_1 : w1.frozen? ⟨w.heap.size + 1, 1, none⟩ = false := by rw [kf1 _ _ (by first | assumption | (simp; done) | (simp; omega) | omega)]; simp [go_sem]
      have z1_h_1 : w.heap.size + 1 < w1.heap.size := kz1 _ (by first | assumption | (simp; done) | (simp; omega) | omega)
      clear kc1 kf1 kz1 ky1 kx1 kv1 ku1 hb1
      go_wp2_with (go_at_call 76; refine (in_impl _ _ _ _).mono ?_; rintro e w2 ⟨rfl, rfl⟩; rw [HK.out])
      go_wp2
      refine bodyPost_ret (v := .tuple #[.agg #[.int .i64 0, .slice none 0 0], .bool false]) (by simp only [results, Try.results69]; go_simp) rfl ?_
      exact ⟨_, rfl, ⟨rfl, .inl ⟨rfl, rfl⟩⟩, by (repeat (first | with_reducible exact Below.refl _ _ | with_reducible assumption | with_reducible refine balloc ?_ _ | with_reducible refine bdrew ?_ | with_reducible refine below_drewN ?_ _ | with_reducible refine bset ?_ ?_ _ | with_reducible exact Nat.le_refl _ | with_reducible refine bsize ?_ | (dsimp only; refine Nat.le_trans ?_ (Nat.le_add_right _ _)) | with_reducible refine Nat.le_trans ?_ (Nat.le_add_right _ _) | (with_reducible refine bstep ?_ (by assumption))))⟩
    · have hb : drB m l k = true := by simp [drB, hr, hk]
      obtain ⟨n, rfl⟩ : ∃ n : Nat, k = (n : Int) := ⟨k.toNat, by simp [inB] at hk; omega⟩
      have hkn : n < l.length := by simp [inB] at hk; omega
      rw [drL_yes hb, drM_yes hb, hb]
      obtain ⟨a, cap, rfl, hL⟩ := rowG_some h (by omega)
      have hlc := hL.hlc
      have hcap := hL.hcap
      have hl8 := hle.2.1
      have HK := Lib.hid hk
      by_cases g2 : cap = n + 1
      · have hm1 : l.length = n + 1 := by omega
        subst g2
        have hd : l.drop (n + 1) = [] := List.drop_of_length_le (by omega)
        rw [hd]
        have hl1 : (l.take n).length + ([] : List ClueV).length ≤ 1048576 := by rw [List.length_take]; simp; omega
        have HC := Lib.hid (fun W g (hB : Below w.heap.size w W) q0 q1 => catK_two g (.slice (some a) n (n + 1)) (.slice (some a) 0 0) (l.take n) [] W q0 q1
          (Or.inr ⟨_, _, by rw [List.length_take, Nat.min_eq_left (by omega)], liesG_take (liesG_below hL hB) n (by omega)⟩)
          (Or.inr ⟨_, _, rfl, lies_nilG (by omega)⟩) hl1)
        generalize hLL : l.take n ++ ([] : List ClueV) = L at *
        clear hd
        clear hb hr hk hL hl1 hLL h hle hkn hlc hl8
        generalize l.length = mm at *
        subst hm1
        have hin : ∀ x y z : Int, y ≤ x → x ≤ z → inB x y z = true := fun x y z h1 h2 => by simp [inB]; exact ⟨h1, h2⟩
        go_enter Try.func69, Try.ntmps69
        go_wp2_with fail
        refine (HR.out _ (by (repeat (first | with_reducible exact Below.refl _ _ | with_reducible assumption | with_reducible refine balloc ?_ _ | with_reducible refine bdrew ?_ | with_reducible refine below_drewN ?_ _ | with_reducible refine bset ?_ ?_ _ | with_reducible exact Nat.le_refl _ | with_reducible refine bsize ?_ | (dsimp only; refine Nat.le_trans ?_ (Nat.le_add_right _ _)) | with_reducible refine Nat.le_trans ?_ (Nat.le_add_right _ _) | (with_reducible refine bstep ?_ (by assumption)))))).mono ?_
        rintro e w1 ⟨rfl, hb1⟩
        obtain ⟨kc1, kf1, kz1, ky1, kx1, kv1, ku1⟩ := bcell hb1
        have ha1 : Below w.heap.size w w1 := by (repeat (first | with_reducible exact Below.refl _ _ | with_reducible assumption | with_reducible refine balloc ?_ _ | with_reducible refine bdrew ?_ | with_reducible refine below_drewN ?_ _ | with_reducible refine bset ?_ ?_ _ | with_reducible exact Nat.le_refl _ | with_reducible refine bsize ?_ | (dsimp only; refine Nat.le_trans ?_ (Nat.le_add_right _ _)) | with_reducible refine Nat.le_trans ?_ (Nat.le_add_right _ _) | (with_reducible refine bstep ?_ (by assumption))))
        have hR1 : Res9 (w.heap.size + 1) w1 := Res9.later (by have h := Res9.new (w.alloc (.cells #[.int .i64 m, .slice (some a) (n + 1) (n + 1)] 41)) (.int .i64 0) (.slice none 0 0) 41; rw [World.size_alloc] at h; exact h) hb1
        have q1_h_0 : w1.cell? ⟨w.heap.size, 0, none⟩ = some (.int .i64 m) := by rw [kc1 _ _ (by first | assumption | (simp; done) | (simp; omega) | omega)]; simp [go_sem]
        have r1_h_0 : w1.frozen? ⟨w.heap.size, 0, none⟩ = false := by rw [kf1 _ _ (by first | assumption | (simp; done) | (simp; omega) | omega)]; simp [go_sem]
        have q1_h_1 : w1.cell? ⟨w.heap.size, 1, none⟩ = some (.slice (some a) (n + 1) (n + 1)) := by rw [kc1 _ _ (by first | assumption | (simp; done) | (simp; omega) | omega)]; simp [go_sem]
        have r1_h_1 : w1.frozen? ⟨w.heap.size, 1, none⟩ = false := by rw [kf1 _ _ (by first | assumption | (simp; done) | (simp; omega) | omega)]; simp [go_sem]
        have z1_h : w.heap.size < w1.heap.size := kz1 _ (by first | assumption | (simp; done) | (simp; omega) | omega)
        have q1_h_1_0 : w1.cell? ⟨w.heap.size + 1, 0, none⟩ = some (.int .i64 0) := by rw [kc1 _ _ (by first | assumption | (simp; done) | (simp; omega) | omega)]; simp [go_sem]
        have r1_h_1_0 : w1.frozen? ⟨w.heap.size + 1, 0, none⟩ = false := by rw [kf1 _ _ (by first | assumption | (simp; done) | (simp; omega) | omega)]; simp [go_sem]
        have q1_h_1_1 : w1.cell? ⟨w.heap.size + 1, 1, none⟩ = some (.slice none 0 0) := by rw [kc1 _ _ (by first | assumption | (simp; done) | (simp; omega) | omega)]; simp [go_sem]
        have r1_h_1_1 : w1.frozen? ⟨w.heap.size + 1, 1, none⟩ = false := by rw [kf1 _ _ (by first | assumption | (simp; done) | (simp; omega) | omega)]; simp [go_sem]
        have z1_h_1 : w.heap.size + 1 < w1.heap.size := kz1 _ (by first | assumption | (simp; done) | (simp; omega) | omega)
        clear kc1 kf1 kz1 ky1 kx1 kv1 ku1 hb1
        go_upto_region 3 with (go_at_call 76; refine (in_impl _ _ _ _).mono ?_; rintro e w2 ⟨rfl, rfl⟩; rw [hin _ _ _ (by omega) (by omega)])
        have g1 : n ≤ (n + 1) := by omega
        have g3 : n ≤ (n + 1) := by omega
        have g4 : n + 1 ≤ (n + 1) := by omega
        have g5 : n + 1 ≤ (n + 1) := by omega
        have wq1 : IntKind.i64.wrap ((n : Int) + 1) = (n : Int) + 1 := IntWalk.i64_in _ (by omega)
        have wq2 : (0 : Int) ≤ (n : Int) + 1 := by omega
        have wq3 : (n : Int) + 1 ≤ (((n + 1) : Nat) : Int) := by omega
        have wq4 : ((n : Int) + 1).toNat = n + 1 := by omega
        have wq5 : (n : Int) ≤ (n : Int) + 1 := by omega
        have wq6 : (n : Int) ≤ (((n + 1) : Nat) : Int) := by omega
        refine wp_region_noPanic ?_
        refine wp_region_held_drew (S := (fun W => Below w.heap.size w W ∧ W.cell? ⟨w.heap.size, 0, none⟩ = some (.int .i64 m) ∧ W.cell? ⟨w.heap.size, 1, none⟩ = some (.slice (some a) (n + 1) (n + 1)) ∧ Res9 (w.heap.size + 1) W ∧ w.heap.size + 1 < W.heap.size)) (by kernel_rfl) ?_ (fun hHeld0 => ?_)
        · (try dsimp only); (go_split_ands; (repeat' with_reducible apply And.intro) <;> first | with_reducible assumption | with_reducible exact Res9.drew (by with_reducible assumption) | with_reducible exact Res9.drew (Res9.alloc (by with_reducible assumption) _) | with_reducible exact Res9.alloc (by with_reducible assumption) _ | with_reducible exact Res9.alloc (Res9.drew (by with_reducible assumption)) _ | with_reducible exact (Res9.set (Res9.set (by with_reducible assumption) 0 _ (by omega)) 1 _ (by omega)) | with_reducible exact Res9.drew (Res9.set (Res9.set (by with_reducible assumption) 0 _ (by omega)) 1 _ (by omega)) | ((repeat (first | with_reducible exact Below.refl _ _ | with_reducible assumption | with_reducible refine balloc ?_ _ | with_reducible refine bdrew ?_ | with_reducible refine below_drewN ?_ _ | with_reducible refine bset ?_ ?_ _ | with_reducible exact Nat.le_refl _ | with_reducible refine bsize ?_ | (dsimp only; refine Nat.le_trans ?_ (Nat.le_add_right _ _)) | with_reducible refine Nat.le_trans ?_ (Nat.le_add_right _ _) | (with_reducible refine bstep ?_ (by assumption)))); done) | (simp [go_sem]; done) | (simp; omega) | (simp [go_sem, *]; done) | go_keep)
        (refine wpAnyH_take (i := 0) (oi := { dst := some 19, op := Op.fieldAddr 41 (Operand.tmp 2) 0, type := 0, pos := "l9_puzzle.go:301", after := #[], guard := none }) (v := ?_) rfl (by kernel_rfl) (by kernel_rfl) (by kernel_rfl) (fun _ _ _ h => h) (Or.inl ⟨by rfl, ?_⟩) (by assumption) ?_; rotate_left; (focus (intro w hSw; (try dsimp only at hSw); go_simp; try with_reducible rfl)); (try simp only [Act.put, List.setIfInBounds_toArray, List.set_cons_zero, List.set_cons_succ]))
        (refine wpAnyH_take (i := 1) (oi := { dst := some 20, op := Op.load 3 (Operand.tmp 19), type := 3, pos := "l9_puzzle.go:301", after := #[{ on := 0, ground := Ground.data }], guard := none }) (v := ?_) rfl (by kernel_rfl) (by kernel_rfl) (by kernel_rfl) (fun _ _ _ h => h) (Or.inl ⟨by rfl, ?_⟩) (by assumption) ?_; rotate_left; (focus (intro w hSw; (try dsimp only at hSw); go_simp; try with_reducible rfl)); (try simp only [Act.put, List.setIfInBounds_toArray, List.set_cons_zero, List.set_cons_succ]))
        (refine wpAnyH_take (i := 2) (oi := { dst := some 21, op := Op.fieldAddr 41 (Operand.tmp 2) 1, type := 0, pos := "l9_puzzle.go:301", after := #[], guard := none }) (v := ?_) rfl (by kernel_rfl) (by kernel_rfl) (by kernel_rfl) (fun _ _ _ h => h) (Or.inl ⟨by rfl, ?_⟩) (by assumption) ?_; rotate_left; (focus (intro w hSw; (try dsimp only at hSw); go_simp; try with_reducible rfl)); (try simp only [Act.put, List.setIfInBounds_toArray, List.set_cons_zero, List.set_cons_succ]))
        (refine wpAnyH_take (i := 3) (oi := { dst := some 22, op := Op.load 39 (Operand.tmp 21), type := 39, pos := "l9_puzzle.go:301", after := #[{ on := 2, ground := Ground.data }], guard := none }) (v := ?_) rfl (by kernel_rfl) (by kernel_rfl) (by kernel_rfl) (fun _ _ _ h => h) (Or.inl ⟨by rfl, ?_⟩) (by assumption) ?_; rotate_left; (focus (intro w hSw; (try dsimp only at hSw); go_simp; try with_reducible rfl)); (try simp only [Act.put, List.setIfInBounds_toArray, List.set_cons_zero, List.set_cons_succ]))
        (refine wpAnyH_take (i := 4) (oi := { dst := some 23, op := Op.move (Operand.tmp 1), type := 3, pos := "l9_puzzle.go:301", after := #[], guard := none }) (v := ?_) rfl (by kernel_rfl) (by kernel_rfl) (by kernel_rfl) (fun _ _ _ h => h) (Or.inl ⟨by rfl, ?_⟩) (by assumption) ?_; rotate_left; (focus (intro w hSw; (try dsimp only at hSw); go_simp; try with_reducible rfl)); (try simp only [Act.put, List.setIfInBounds_toArray, List.set_cons_zero, List.set_cons_succ]))
        (refine wpAnyH_take (i := 5) (oi := { dst := some 24, op := Op.slice 39 (Operand.tmp 22) none (some (Operand.tmp 23)) none, type := 39, pos := "l9_puzzle.go:301", after := #[{ on := 3, ground := Ground.data }, { on := 4, ground := Ground.data }], guard := none }) (v := ?_) rfl (by kernel_rfl) (by kernel_rfl) (by kernel_rfl) (fun _ _ _ h => h) (Or.inl ⟨by rfl, ?_⟩) (by assumption) ?_; rotate_left; (focus (intro w hSw; (try dsimp only at hSw); go_simp; try with_reducible rfl)); (try simp only [Act.put, List.setIfInBounds_toArray, List.set_cons_zero, List.set_cons_succ]))
        (refine wpAnyH_take (i := 6) (oi := { dst := some 25, op := Op.fieldAddr 41 (Operand.tmp 2) 1, type := 0, pos := "l9_puzzle.go:301", after := #[], guard := none }) (v := ?_) rfl (by kernel_rfl) (by kernel_rfl) (by kernel_rfl) (fun _ _ _ h => h) (Or.inl ⟨by rfl, ?_⟩) (by assumption) ?_; rotate_left; (focus (intro w hSw; (try dsimp only at hSw); go_simp; try with_reducible rfl)); (try simp only [Act.put, List.setIfInBounds_toArray, List.set_cons_zero, List.set_cons_succ]))
        (refine wpAnyH_take (i := 7) (oi := { dst := some 26, op := Op.load 39 (Operand.tmp 25), type := 39, pos := "l9_puzzle.go:301", after := #[{ on := 6, ground := Ground.data }], guard := none }) (v := ?_) rfl (by kernel_rfl) (by kernel_rfl) (by kernel_rfl) (fun _ _ _ h => h) (Or.inl ⟨by rfl, ?_⟩) (by assumption) ?_; rotate_left; (focus (intro w hSw; (try dsimp only at hSw); go_simp; try with_reducible rfl)); (try simp only [Act.put, List.setIfInBounds_toArray, List.set_cons_zero, List.set_cons_succ]))
        (refine wpAnyH_take (i := 8) (oi := { dst := some 27, op := Op.move (Operand.tmp 1), type := 3, pos := "l9_puzzle.go:301", after := #[], guard := none }) (v := ?_) rfl (by kernel_rfl) (by kernel_rfl) (by kernel_rfl) (fun _ _ _ h => h) (Or.inl ⟨by rfl, ?_⟩) (by assumption) ?_; rotate_left; (focus (intro w hSw; (try dsimp only at hSw); go_simp; try with_reducible rfl)); (try simp only [Act.put, List.setIfInBounds_toArray, List.set_cons_zero, List.set_cons_succ]))
        (refine wpAnyH_take (i := 9) (oi := { dst := some 28, op := Op.binOp BinOp.add 3 (Operand.tmp 27) (Operand.const (Value.int IntKind.i64 1)) 3, type := 3, pos := "l9_puzzle.go:301", after := #[{ on := 8, ground := Ground.data }], guard := none }) (v := ?_) rfl (by kernel_rfl) (by kernel_rfl) (by kernel_rfl) (fun _ _ _ h => h) (Or.inl ⟨by rfl, ?_⟩) (by assumption) ?_; rotate_left; (focus (intro w hSw; (try dsimp only at hSw); go_simp; try with_reducible rfl)); (try simp only [Act.put, List.setIfInBounds_toArray, List.set_cons_zero, List.set_cons_succ]))
        (refine wpAnyH_take (i := 10) (oi := { dst := some 29, op := Op.slice 39 (Operand.tmp 26) (some (Operand.tmp 28)) none none, type := 39, pos := "l9_puzzle.go:301", after := #[{ on := 7, ground := Ground.data }, { on := 9, ground := Ground.data }], guard := none }) (v := ?_) rfl (by kernel_rfl) (by kernel_rfl) (by kernel_rfl) (fun _ _ _ h => h) (Or.inl ⟨by rfl, ?_⟩) (by assumption) ?_; rotate_left; (focus (intro w hSw; (try dsimp only at hSw); go_simp; try with_reducible rfl)); (try simp only [Act.put, List.setIfInBounds_toArray, List.set_cons_zero, List.set_cons_succ]))
        (refine wpAnyH_ready (rs := [11]) (by kernel_rfl) (by simp) ?_; refine AllReadyH.cons (o := { dst := some 30, op := Op.buildSlice 111 2 #[(0, Operand.tmp 24), (1, Operand.tmp 29)], type := 111, pos := "l9_puzzle.go:301", after := #[{ on := 5, ground := Ground.data }, { on := 10, ground := Ground.data }], guard := none }) rfl (fun K hK => ?_) AllReadyH.nil; go_simp; skip; (first | refine hK.out _ _ ?_ (fun hHeld1 => ?_) | (go_wp2_with fail; refine hK.out _ _ ?_ (fun hHeld1 => ?_))); (focus ((try dsimp only); (go_split_ands; (repeat' with_reducible apply And.intro) <;> first | with_reducible assumption | with_reducible exact Res9.drew (by with_reducible assumption) | with_reducible exact Res9.drew (Res9.alloc (by with_reducible assumption) _) | with_reducible exact Res9.alloc (by with_reducible assumption) _ | with_reducible exact Res9.alloc (Res9.drew (by with_reducible assumption)) _ | with_reducible exact (Res9.set (Res9.set (by with_reducible assumption) 0 _ (by omega)) 1 _ (by omega)) | with_reducible exact Res9.drew (Res9.set (Res9.set (by with_reducible assumption) 0 _ (by omega)) 1 _ (by omega)) | ((repeat (first | with_reducible exact Below.refl _ _ | with_reducible assumption | with_reducible refine balloc ?_ _ | with_reducible refine bdrew ?_ | with_reducible refine below_drewN ?_ _ | with_reducible refine bset ?_ ?_ _ | with_reducible exact Nat.le_refl _ | with_reducible refine bsize ?_ | (dsimp only; refine Nat.le_trans ?_ (Nat.le_add_right _ _)) | with_reducible refine Nat.le_trans ?_ (Nat.le_add_right _ _) | (with_reducible refine bstep ?_ (by assumption)))); done) | (simp [go_sem]; done) | (simp; omega) | (simp [go_sem, *]; done) | go_keep))); clear hK K; (try clear hHeld0); (try simp only [Act.put, List.setIfInBounds_toArray, List.set_cons_zero, List.set_cons_succ]))
        (refine wpAnyH_ready (rs := [12]) (by kernel_rfl) (by simp) ?_; refine AllReadyH.cons (o := { dst := some 31, op := Op.call { callee := Callee.value (Operand.func 98), args := #[Operand.tmp 30], argTypes := #[111] }, type := 39, pos := "l9_puzzle.go:301", after := #[{ on := 11, ground := Ground.data }], guard := none }) rfl (fun K hK => ?_) AllReadyH.nil; go_simp; (go_at_call 98; refine (HC.out _ w1.heap.size (by first | with_reducible assumption | ((repeat (first | with_reducible exact Below.refl _ _ | with_reducible assumption | with_reducible refine balloc ?_ _ | with_reducible refine bdrew ?_ | with_reducible refine below_drewN ?_ _ | with_reducible refine bset ?_ ?_ _ | with_reducible exact Nat.le_refl _ | with_reducible refine bsize ?_ | (dsimp only; refine Nat.le_trans ?_ (Nat.le_add_right _ _)) | with_reducible refine Nat.le_trans ?_ (Nat.le_add_right _ _) | (with_reducible refine bstep ?_ (by assumption)))); done)) (by simp [go_sem]) (by simp [go_sem])).mono ?_; rintro e w5 ⟨v5, rfl, hown, hb3⟩; go_split_ands; (have f1 : Below w.heap.size w w5 := bstep (by first | with_reducible assumption | ((repeat (first | with_reducible exact Below.refl _ _ | with_reducible assumption | with_reducible refine balloc ?_ _ | with_reducible refine bdrew ?_ | with_reducible refine below_drewN ?_ _ | with_reducible refine bset ?_ ?_ _ | with_reducible exact Nat.le_refl _ | with_reducible refine bsize ?_ | (dsimp only; refine Nat.le_trans ?_ (Nat.le_add_right _ _)) | with_reducible refine Nat.le_trans ?_ (Nat.le_add_right _ _) | (with_reducible refine bstep ?_ (by assumption)))); done)) hb3); (have f2 : w5.cell? ⟨w.heap.size, 0, none⟩ = some (.int .i64 m) := keepa hb3 (by first | omega | (simp; omega)) (by first | with_reducible assumption | (simp [go_sem]; done) | (simp [go_sem, *]; done))); (have f3 : w5.cell? ⟨w.heap.size, 1, none⟩ = some (.slice (some a) (n + 1) (n + 1)) := keepa hb3 (by first | omega | (simp; omega)) (by first | with_reducible assumption | (simp [go_sem]; done) | (simp [go_sem, *]; done))); (have fr := Res9.later (by first | with_reducible assumption | with_reducible exact Res9.drew (by with_reducible assumption) | with_reducible exact Res9.alloc (by with_reducible assumption) _ | with_reducible exact Res9.alloc (Res9.drew (by with_reducible assumption)) _ | with_reducible exact Res9.drew (Res9.alloc (by with_reducible assumption) _)) hb3); (have fr2 := fr; obtain ⟨rx, ry, r1, r2, r3, r4, rz⟩ := fr2); (obtain ⟨a5, c5, rfl⟩ := owns_shape hown)); (first | refine hK.out _ _ ?_ (fun hHeld2 => ?_) | (go_wp2_with fail; refine hK.out _ _ ?_ (fun hHeld2 => ?_))); (focus ((try dsimp only); (go_split_ands; (repeat' with_reducible apply And.intro) <;> first | with_reducible assumption | with_reducible exact Res9.drew (by with_reducible assumption) | with_reducible exact Res9.drew (Res9.alloc (by with_reducible assumption) _) | with_reducible exact Res9.alloc (by with_reducible assumption) _ | with_reducible exact Res9.alloc (Res9.drew (by with_reducible assumption)) _ | with_reducible exact (Res9.set (Res9.set (by with_reducible assumption) 0 _ (by omega)) 1 _ (by omega)) | with_reducible exact Res9.drew (Res9.set (Res9.set (by with_reducible assumption) 0 _ (by omega)) 1 _ (by omega)) | ((repeat (first | with_reducible exact Below.refl _ _ | with_reducible assumption | with_reducible refine balloc ?_ _ | with_reducible refine bdrew ?_ | with_reducible refine below_drewN ?_ _ | with_reducible refine bset ?_ ?_ _ | with_reducible exact Nat.le_refl _ | with_reducible refine bsize ?_ | (dsimp only; refine Nat.le_trans ?_ (Nat.le_add_right _ _)) | with_reducible refine Nat.le_trans ?_ (Nat.le_add_right _ _) | (with_reducible refine bstep ?_ (by assumption)))); done) | (simp [go_sem]; done) | (simp; omega) | (simp [go_sem, *]; done) | go_keep))); clear hK K; (try clear hHeld1); (try simp only [Act.put, List.setIfInBounds_toArray, List.set_cons_zero, List.set_cons_succ]))
        (refine wpAnyH_take (i := 13) (oi := { dst := some 32, op := Op.build 41 #[(0, Operand.tmp 20), (1, Operand.tmp 31)], type := 41, pos := "l9_puzzle.go:301", after := #[{ on := 1, ground := Ground.data }, { on := 12, ground := Ground.data }], guard := none }) (v := ?_) rfl (by kernel_rfl) (by kernel_rfl) (by kernel_rfl) (fun _ _ _ h => h) (Or.inl ⟨by rfl, ?_⟩) (by assumption) ?_; rotate_left; (focus (intro w hSw; (try dsimp only at hSw); go_simp; try with_reducible rfl)); (try simp only [Act.put, List.setIfInBounds_toArray, List.set_cons_zero, List.set_cons_succ]))
        (refine wpAnyH_ready (rs := [14]) (by kernel_rfl) (by simp) ?_; refine AllReadyH.cons (o := { dst := none, op := Op.store 41 (Operand.tmp 4) (Operand.tmp 32), type := 0, pos := "l9_puzzle.go:301", after := #[{ on := 13, ground := Ground.data }, { on := 12, ground := Ground.chain }, { on := 0, ground := Ground.phase }, { on := 1, ground := Ground.phase }, { on := 2, ground := Ground.phase }, { on := 3, ground := Ground.phase }, { on := 4, ground := Ground.phase }, { on := 5, ground := Ground.phase }, { on := 6, ground := Ground.phase }, { on := 7, ground := Ground.phase }, { on := 8, ground := Ground.phase }, { on := 9, ground := Ground.phase }, { on := 10, ground := Ground.phase }, { on := 11, ground := Ground.phase }, { on := 12, ground := Ground.phase }, { on := 13, ground := Ground.phase }], guard := none }) rfl (fun K hK => ?_) AllReadyH.nil; go_simp; skip; (first | refine hK.out _ _ ?_ (fun hHeld3 => ?_) | (go_wp2_with fail; refine hK.out _ _ ?_ (fun hHeld3 => ?_))); (focus ((try dsimp only); (go_split_ands; (repeat' with_reducible apply And.intro) <;> first | with_reducible assumption | with_reducible exact Res9.drew (by with_reducible assumption) | with_reducible exact Res9.drew (Res9.alloc (by with_reducible assumption) _) | with_reducible exact Res9.alloc (by with_reducible assumption) _ | with_reducible exact Res9.alloc (Res9.drew (by with_reducible assumption)) _ | with_reducible exact (Res9.set (Res9.set (by with_reducible assumption) 0 _ (by omega)) 1 _ (by omega)) | with_reducible exact Res9.drew (Res9.set (Res9.set (by with_reducible assumption) 0 _ (by omega)) 1 _ (by omega)) | ((repeat (first | with_reducible exact Below.refl _ _ | with_reducible assumption | with_reducible refine balloc ?_ _ | with_reducible refine bdrew ?_ | with_reducible refine below_drewN ?_ _ | with_reducible refine bset ?_ ?_ _ | with_reducible exact Nat.le_refl _ | with_reducible refine bsize ?_ | (dsimp only; refine Nat.le_trans ?_ (Nat.le_add_right _ _)) | with_reducible refine Nat.le_trans ?_ (Nat.le_add_right _ _) | (with_reducible refine bstep ?_ (by assumption)))); done) | (simp [go_sem]; done) | (simp; omega) | (simp [go_sem, *]; done) | go_keep))); clear hK K; (try clear hHeld2); (try simp only [Act.put, List.setIfInBounds_toArray, List.set_cons_zero, List.set_cons_succ]))
        (refine wpAnyH_take (i := 15) (oi := { dst := some 5, op := Op.assign (Operand.const (Value.bool true)), type := 4, pos := "l9_puzzle.go:301", after := #[{ on := 14, ground := Ground.chain }, { on := 0, ground := Ground.phase }, { on := 1, ground := Ground.phase }, { on := 2, ground := Ground.phase }, { on := 3, ground := Ground.phase }, { on := 4, ground := Ground.phase }, { on := 5, ground := Ground.phase }, { on := 6, ground := Ground.phase }, { on := 7, ground := Ground.phase }, { on := 8, ground := Ground.phase }, { on := 9, ground := Ground.phase }, { on := 10, ground := Ground.phase }, { on := 11, ground := Ground.phase }, { on := 12, ground := Ground.phase }, { on := 13, ground := Ground.phase }, { on := 14, ground := Ground.phase }], guard := none }) (v := ?_) rfl (by kernel_rfl) (by kernel_rfl) (by kernel_rfl) (fun _ _ _ h => h) (Or.inl ⟨by rfl, ?_⟩) (by assumption) ?_; rotate_left; (focus (intro w hSw; (try dsimp only at hSw); go_simp; try with_reducible rfl)); (try simp only [Act.put, List.setIfInBounds_toArray, List.set_cons_zero, List.set_cons_succ]))
        refine wpAnyH_done (by kernel_rfl) ?_ _
        (try refine NoPanic.normal ?_)
        all_goals go_wp2
        all_goals refine bodyPost_ret (v := .tuple #[.agg #[.int .i64 m, .slice a5 L.length c5], .bool true]) (by simp only [results, Try.results69]; go_simp) rfl ?_
        all_goals exact ⟨_, rfl, own_set (own_set (own_mono hown (by simp; omega)) (own_ne hown (b := w.heap.size + 1) (by simp; omega)) _) (own_ne hown (b := w.heap.size + 1) (by simp; omega)) _, by (repeat (first | with_reducible exact Below.refl _ _ | with_reducible assumption | with_reducible refine balloc ?_ _ | with_reducible refine bdrew ?_ | with_reducible refine below_drewN ?_ _ | with_reducible refine bset ?_ ?_ _ | with_reducible exact Nat.le_refl _ | with_reducible refine bsize ?_ | (dsimp only; refine Nat.le_trans ?_ (Nat.le_add_right _ _)) | with_reducible refine Nat.le_trans ?_ (Nat.le_add_right _ _) | (with_reducible refine bstep ?_ (by assumption))))⟩
      · have hl1 : (l.take n).length + (l.drop (n + 1)).length ≤ 1048576 := by rw [List.length_drop, List.length_take]; omega
        have HC := Lib.hid (fun W g (hB : Below w.heap.size w W) q0 q1 => catK_two g (.slice (some a) n cap) (.slice (some (a.add ((n + 1) * 3))) (l.length - (n + 1)) (cap - (n + 1))) (l.take n) (l.drop (n + 1)) W q0 q1
          (Or.inr ⟨_, _, by rw [List.length_take, Nat.min_eq_left (by omega)], liesG_take (liesG_below hL hB) n (by omega)⟩)
          (Or.inr ⟨_, _, by rw [List.length_drop], liesG_drop (liesG_below hL hB) (n + 1) (by omega)⟩) hl1)
        generalize hLL : l.take n ++ l.drop (n + 1) = L at *
        clear hb hr hk hL hl1 hLL h hle
        generalize l.length = mm at *
        have hin : ∀ x y z : Int, y ≤ x → x ≤ z → inB x y z = true := fun x y z h1 h2 => by simp [inB]; exact ⟨h1, h2⟩
        go_enter Try.func69, Try.ntmps69
        go_wp2_with fail
        refine (HR.out _ (by (repeat (first | with_reducible exact Below.refl _ _ | with_reducible assumption | with_reducible refine balloc ?_ _ | with_reducible refine bdrew ?_ | with_reducible refine below_drewN ?_ _ | with_reducible refine bset ?_ ?_ _ | with_reducible exact Nat.le_refl _ | with_reducible refine bsize ?_ | (dsimp only; refine Nat.le_trans ?_ (Nat.le_add_right _ _)) | with_reducible refine Nat.le_trans ?_ (Nat.le_add_right _ _) | (with_reducible refine bstep ?_ (by assumption)))))).mono ?_
        rintro e w1 ⟨rfl, hb1⟩
        obtain ⟨kc1, kf1, kz1, ky1, kx1, kv1, ku1⟩ := bcell hb1
        have ha1 : Below w.heap.size w w1 := by (repeat (first | with_reducible exact Below.refl _ _ | with_reducible assumption | with_reducible refine balloc ?_ _ | with_reducible refine bdrew ?_ | with_reducible refine below_drewN ?_ _ | with_reducible refine bset ?_ ?_ _ | with_reducible exact Nat.le_refl _ | with_reducible refine bsize ?_ | (dsimp only; refine Nat.le_trans ?_ (Nat.le_add_right _ _)) | with_reducible refine Nat.le_trans ?_ (Nat.le_add_right _ _) | (with_reducible refine bstep ?_ (by assumption))))
        have hR1 : Res9 (w.heap.size + 1) w1 := Res9.later (by have h := Res9.new (w.alloc (.cells #[.int .i64 m, .slice (some a) mm cap] 41)) (.int .i64 0) (.slice none 0 0) 41; rw [World.size_alloc] at h; exact h) hb1
        have q1_h_0 : w1.cell? ⟨w.heap.size, 0, none⟩ = some (.int .i64 m) := by rw [kc1 _ _ (by first | assumption | (simp; done) | (simp; omega) | omega)]; simp [go_sem]
        have r1_h_0 : w1.frozen? ⟨w.heap.size, 0, none⟩ = false := by rw [kf1 _ _ (by first | assumption | (simp; done) | (simp; omega) | omega)]; simp [go_sem]
        have q1_h_1 : w1.cell? ⟨w.heap.size, 1, none⟩ = some (.slice (some a) mm cap) := by rw [kc1 _ _ (by first | assumption | (simp; done) | (simp; omega) | omega)]; simp [go_sem]
        have r1_h_1 : w1.frozen? ⟨w.heap.size, 1, none⟩ = false := by rw [kf1 _ _ (by first | assumption | (simp; done) | (simp; omega) | omega)]; simp [go_sem]
        have z1_h : w.heap.size < w1.heap.size := kz1 _ (by first | assumption | (simp; done) | (simp; omega) | omega)
        have q1_h_1_0 : w1.cell? ⟨w.heap.size + 1, 0, none⟩ = some (.int .i64 0) := by rw [kc1 _ _ (by first | assumption | (simp; done) | (simp; omega) | omega)]; simp [go_sem]
        have r1_h_1_0 : w1.frozen? ⟨w.heap.size + 1, 0, none⟩ = false := by rw [kf1 _ _ (by first | assumption | (simp; done) | (simp; omega) | omega)]; simp [go_sem]
        have q1_h_1_1 : w1.cell? ⟨w.heap.size + 1, 1, none⟩ = some (.slice none 0 0) := by rw [kc1 _ _ (by first | assumption | (simp; done) | (simp; omega) | omega)]; simp [go_sem]
        have r1_h_1_1 : w1.frozen? ⟨w.heap.size + 1, 1, none⟩ = false := by rw [kf1 _ _ (by first | assumption | (simp; done) | (simp; omega) | omega)]; simp [go_sem]
        have z1_h_1 : w.heap.size + 1 < w1.heap.size := kz1 _ (by first | assumption | (simp; done) | (simp; omega) | omega)
        clear kc1 kf1 kz1 ky1 kx1 kv1 ku1 hb1
        go_upto_region 3 with (go_at_call 76; refine (in_impl _ _ _ _).mono ?_; rintro e w2 ⟨rfl, rfl⟩; rw [hin _ _ _ (by omega) (by omega)])
        have g1 : n ≤ mm := by omega
        have g3 : n ≤ cap := by omega
        have g4 : n + 1 ≤ mm := by omega
        have g5 : n + 1 ≤ cap := by omega
        have wq1 : IntKind.i64.wrap ((n : Int) + 1) = (n : Int) + 1 := IntWalk.i64_in _ (by omega)
        have wq2 : (0 : Int) ≤ (n : Int) + 1 := by omega
        have wq3 : (n : Int) + 1 ≤ ((mm : Nat) : Int) := by omega
        have wq4 : ((n : Int) + 1).toNat = n + 1 := by omega
        have wq5 : (n : Int) ≤ (n : Int) + 1 := by omega
        have wq6 : (n : Int) ≤ ((cap : Nat) : Int) := by omega
        refine wp_region_noPanic ?_
        refine wp_region_held_drew (S := (fun W => Below w.heap.size w W ∧ W.cell? ⟨w.heap.size, 0, none⟩ = some (.int .i64 m) ∧ W.cell? ⟨w.heap.size, 1, none⟩ = some (.slice (some a) (mm) (cap)) ∧ Res9 (w.heap.size + 1) W ∧ w.heap.size + 1 < W.heap.size)) (by kernel_rfl) ?_ (fun hHeld0 => ?_)
        · (try dsimp only); (go_split_ands; (repeat' with_reducible apply And.intro) <;> first | with_reducible assumption | with_reducible exact Res9.drew (by with_reducible assumption) | with_reducible exact Res9.drew (Res9.alloc (by with_reducible assumption) _) | with_reducible exact Res9.alloc (by with_reducible assumption) _ | with_reducible exact Res9.alloc (Res9.drew (by with_reducible assumption)) _ | with_reducible exact (Res9.set (Res9.set (by with_reducible assumption) 0 _ (by omega)) 1 _ (by omega)) | with_reducible exact Res9.drew (Res9.set (Res9.set (by with_reducible assumption) 0 _ (by omega)) 1 _ (by omega)) | ((repeat (first | with_reducible exact Below.refl _ _ | with_reducible assumption | with_reducible refine balloc ?_ _ | with_reducible refine bdrew ?_ | with_reducible refine below_drewN ?_ _ | with_reducible refine bset ?_ ?_ _ | with_reducible exact Nat.le_refl _ | with_reducible refine bsize ?_ | (dsimp only; refine Nat.le_trans ?_ (Nat.le_add_right _ _)) | with_reducible refine Nat.le_trans ?_ (Nat.le_add_right _ _) | (with_reducible refine bstep ?_ (by assumption)))); done) | (simp [go_sem]; done) | (simp; omega) | (simp [go_sem, *]; done) | go_keep)
        (refine wpAnyH_take (i := 0) (oi := { dst := some 19, op := Op.fieldAddr 41 (Operand.tmp 2) 0, type := 0, pos := "l9_puzzle.go:301", after := #[], guard := none }) (v := ?_) rfl (by kernel_rfl) (by kernel_rfl) (by kernel_rfl) (fun _ _ _ h => h) (Or.inl ⟨by rfl, ?_⟩) (by assumption) ?_; rotate_left; (focus (intro w hSw; (try dsimp only at hSw); go_simp; try with_reducible rfl)); (try simp only [Act.put, List.setIfInBounds_toArray, List.set_cons_zero, List.set_cons_succ]))
        (refine wpAnyH_take (i := 1) (oi := { dst := some 20, op := Op.load 3 (Operand.tmp 19), type := 3, pos := "l9_puzzle.go:301", after := #[{ on := 0, ground := Ground.data }], guard := none }) (v := ?_) rfl (by kernel_rfl) (by kernel_rfl) (by kernel_rfl) (fun _ _ _ h => h) (Or.inl ⟨by rfl, ?_⟩) (by assumption) ?_; rotate_left; (focus (intro w hSw; (try dsimp only at hSw); go_simp; try with_reducible rfl)); (try simp only [Act.put, List.setIfInBounds_toArray, List.set_cons_zero, List.set_cons_succ]))
        (refine wpAnyH_take (i := 2) (oi := { dst := some 21, op := Op.fieldAddr 41 (Operand.tmp 2) 1, type := 0, pos := "l9_puzzle.go:301", after := #[], guard := none }) (v := ?_) rfl (by kernel_rfl) (by kernel_rfl) (by kernel_rfl) (fun _ _ _ h => h) (Or.inl ⟨by rfl, ?_⟩) (by assumption) ?_; rotate_left; (focus (intro w hSw; (try dsimp only at hSw); go_simp; try with_reducible rfl)); (try simp only [Act.put, List.setIfInBounds_toArray, List.set_cons_zero, List.set_cons_succ]))
        (refine wpAnyH_take (i := 3) (oi := { dst := some 22, op := Op.load 39 (Operand.tmp 21), type := 39, pos := "l9_puzzle.go:301", after := #[{ on := 2, ground := Ground.data }], guard := none }) (v := ?_) rfl (by kernel_rfl) (by kernel_rfl) (by kernel_rfl) (fun _ _ _ h => h) (Or.inl ⟨by rfl, ?_⟩) (by assumption) ?_; rotate_left; (focus (intro w hSw; (try dsimp only at hSw); go_simp; try with_reducible rfl)); (try simp only [Act.put, List.setIfInBounds_toArray, List.set_cons_zero, List.set_cons_succ]))
        (refine wpAnyH_take (i := 4) (oi := { dst := some 23, op := Op.move (Operand.tmp 1), type := 3, pos := "l9_puzzle.go:301", after := #[], guard := none }) (v := ?_) rfl (by kernel_rfl) (by kernel_rfl) (by kernel_rfl) (fun _ _ _ h => h) (Or.inl ⟨by rfl, ?_⟩) (by assumption) ?_; rotate_left; (focus (intro w hSw; (try dsimp only at hSw); go_simp; try with_reducible rfl)); (try simp only [Act.put, List.setIfInBounds_toArray, List.set_cons_zero, List.set_cons_succ]))
        (refine wpAnyH_take (i := 5) (oi := { dst := some 24, op := Op.slice 39 (Operand.tmp 22) none (some (Operand.tmp 23)) none, type := 39, pos := "l9_puzzle.go:301", after := #[{ on := 3, ground := Ground.data }, { on := 4, ground := Ground.data }], guard := none }) (v := ?_) rfl (by kernel_rfl) (by kernel_rfl) (by kernel_rfl) (fun _ _ _ h => h) (Or.inl ⟨by rfl, ?_⟩) (by assumption) ?_; rotate_left; (focus (intro w hSw; (try dsimp only at hSw); go_simp; try with_reducible rfl)); (try simp only [Act.put, List.setIfInBounds_toArray, List.set_cons_zero, List.set_cons_succ]))
        (refine wpAnyH_take (i := 6) (oi := { dst := some 25, op := Op.fieldAddr 41 (Operand.tmp 2) 1, type := 0, pos := "l9_puzzle.go:301", after := #[], guard := none }) (v := ?_) rfl (by kernel_rfl) (by kernel_rfl) (by kernel_rfl) (fun _ _ _ h => h) (Or.inl ⟨by rfl, ?_⟩) (by assumption) ?_; rotate_left; (focus (intro w hSw; (try dsimp only at hSw); go_simp; try with_reducible rfl)); (try simp only [Act.put, List.setIfInBounds_toArray, List.set_cons_zero, List.set_cons_succ]))
        (refine wpAnyH_take (i := 7) (oi := { dst := some 26, op := Op.load 39 (Operand.tmp 25), type := 39, pos := "l9_puzzle.go:301", after := #[{ on := 6, ground := Ground.data }], guard := none }) (v := ?_) rfl (by kernel_rfl) (by kernel_rfl) (by kernel_rfl) (fun _ _ _ h => h) (Or.inl ⟨by rfl, ?_⟩) (by assumption) ?_; rotate_left; (focus (intro w hSw; (try dsimp only at hSw); go_simp; try with_reducible rfl)); (try simp only [Act.put, List.setIfInBounds_toArray, List.set_cons_zero, List.set_cons_succ]))
        (refine wpAnyH_take (i := 8) (oi := { dst := some 27, op := Op.move (Operand.tmp 1), type := 3, pos := "l9_puzzle.go:301", after := #[], guard := none }) (v := ?_) rfl (by kernel_rfl) (by kernel_rfl) (by kernel_rfl) (fun _ _ _ h => h) (Or.inl ⟨by rfl, ?_⟩) (by assumption) ?_; rotate_left; (focus (intro w hSw; (try dsimp only at hSw); go_simp; try with_reducible rfl)); (try simp only [Act.put, List.setIfInBounds_toArray, List.set_cons_zero, List.set_cons_succ]))
        (refine wpAnyH_take (i := 9) (oi := { dst := some 28, op := Op.binOp BinOp.add 3 (Operand.tmp 27) (Operand.const (Value.int IntKind.i64 1)) 3, type := 3, pos := "l9_puzzle.go:301", after := #[{ on := 8, ground := Ground.data }], guard := none }) (v := ?_) rfl (by kernel_rfl) (by kernel_rfl) (by kernel_rfl) (fun _ _ _ h => h) (Or.inl ⟨by rfl, ?_⟩) (by assumption) ?_; rotate_left; (focus (intro w hSw; (try dsimp only at hSw); go_simp; try with_reducible rfl)); (try simp only [Act.put, List.setIfInBounds_toArray, List.set_cons_zero, List.set_cons_succ]))
        (refine wpAnyH_take (i := 10) (oi := { dst := some 29, op := Op.slice 39 (Operand.tmp 26) (some (Operand.tmp 28)) none none, type := 39, pos := "l9_puzzle.go:301", after := #[{ on := 7, ground := Ground.data }, { on := 9, ground := Ground.data }], guard := none }) (v := ?_) rfl (by kernel_rfl) (by kernel_rfl) (by kernel_rfl) (fun _ _ _ h => h) (Or.inl ⟨by rfl, ?_⟩) (by assumption) ?_; rotate_left; (focus (intro w hSw; (try dsimp only at hSw); go_simp; try with_reducible rfl)); (try simp only [Act.put, List.setIfInBounds_toArray, List.set_cons_zero, List.set_cons_succ]))
        (refine wpAnyH_ready (rs := [11]) (by kernel_rfl) (by simp) ?_; refine AllReadyH.cons (o := { dst := some 30, op := Op.buildSlice 111 2 #[(0, Operand.tmp 24), (1, Operand.tmp 29)], type := 111, pos := "l9_puzzle.go:301", after := #[{ on := 5, ground := Ground.data }, { on := 10, ground := Ground.data }], guard := none }) rfl (fun K hK => ?_) AllReadyH.nil; go_simp; skip; (first | refine hK.out _ _ ?_ (fun hHeld1 => ?_) | (go_wp2_with fail; refine hK.out _ _ ?_ (fun hHeld1 => ?_))); (focus ((try dsimp only); (go_split_ands; (repeat' with_reducible apply And.intro) <;> first | with_reducible assumption | with_reducible exact Res9.drew (by with_reducible assumption) | with_reducible exact Res9.drew (Res9.alloc (by with_reducible assumption) _) | with_reducible exact Res9.alloc (by with_reducible assumption) _ | with_reducible exact Res9.alloc (Res9.drew (by with_reducible assumption)) _ | with_reducible exact (Res9.set (Res9.set (by with_reducible assumption) 0 _ (by omega)) 1 _ (by omega)) | with_reducible exact Res9.drew (Res9.set (Res9.set (by with_reducible assumption) 0 _ (by omega)) 1 _ (by omega)) | ((repeat (first | with_reducible exact Below.refl _ _ | with_reducible assumption | with_reducible refine balloc ?_ _ | with_reducible refine bdrew ?_ | with_reducible refine below_drewN ?_ _ | with_reducible refine bset ?_ ?_ _ | with_reducible exact Nat.le_refl _ | with_reducible refine bsize ?_ | (dsimp only; refine Nat.le_trans ?_ (Nat.le_add_right _ _)) | with_reducible refine Nat.le_trans ?_ (Nat.le_add_right _ _) | (with_reducible refine bstep ?_ (by assumption)))); done) | (simp [go_sem]; done) | (simp; omega) | (simp [go_sem, *]; done) | go_keep))); clear hK K; (try clear hHeld0); (try simp only [Act.put, List.setIfInBounds_toArray, List.set_cons_zero, List.set_cons_succ]))
        (refine wpAnyH_ready (rs := [12]) (by kernel_rfl) (by simp) ?_; refine AllReadyH.cons (o := { dst := some 31, op := Op.call { callee := Callee.value (Operand.func 98), args := #[Operand.tmp 30], argTypes := #[111] }, type := 39, pos := "l9_puzzle.go:301", after := #[{ on := 11, ground := Ground.data }], guard := none }) rfl (fun K hK => ?_) AllReadyH.nil; go_simp; (go_at_call 98; refine (HC.out _ w1.heap.size (by first | with_reducible assumption | ((repeat (first | with_reducible exact Below.refl _ _ | with_reducible assumption | with_reducible refine balloc ?_ _ | with_reducible refine bdrew ?_ | with_reducible refine below_drewN ?_ _ | with_reducible refine bset ?_ ?_ _ | with_reducible exact Nat.le_refl _ | with_reducible refine bsize ?_ | (dsimp only; refine Nat.le_trans ?_ (Nat.le_add_right _ _)) | with_reducible refine Nat.le_trans ?_ (Nat.le_add_right _ _) | (with_reducible refine bstep ?_ (by assumption)))); done)) (by simp [go_sem]) (by simp [go_sem])).mono ?_; rintro e w5 ⟨v5, rfl, hown, hb3⟩; go_split_ands; (have f1 : Below w.heap.size w w5 := bstep (by first | with_reducible assumption | ((repeat (first | with_reducible exact Below.refl _ _ | with_reducible assumption | with_reducible refine balloc ?_ _ | with_reducible refine bdrew ?_ | with_reducible refine below_drewN ?_ _ | with_reducible refine bset ?_ ?_ _ | with_reducible exact Nat.le_refl _ | with_reducible refine bsize ?_ | (dsimp only; refine Nat.le_trans ?_ (Nat.le_add_right _ _)) | with_reducible refine Nat.le_trans ?_ (Nat.le_add_right _ _) | (with_reducible refine bstep ?_ (by assumption)))); done)) hb3); (have f2 : w5.cell? ⟨w.heap.size, 0, none⟩ = some (.int .i64 m) := keepa hb3 (by first | omega | (simp; omega)) (by first | with_reducible assumption | (simp [go_sem]; done) | (simp [go_sem, *]; done))); (have f3 : w5.cell? ⟨w.heap.size, 1, none⟩ = some (.slice (some a) (mm) (cap)) := keepa hb3 (by first | omega | (simp; omega)) (by first | with_reducible assumption | (simp [go_sem]; done) | (simp [go_sem, *]; done))); (have fr := Res9.later (by first | with_reducible assumption | with_reducible exact Res9.drew (by with_reducible assumption) | with_reducible exact Res9.alloc (by with_reducible assumption) _ | with_reducible exact Res9.alloc (Res9.drew (by with_reducible assumption)) _ | with_reducible exact Res9.drew (Res9.alloc (by with_reducible assumption) _)) hb3); (have fr2 := fr; obtain ⟨rx, ry, r1, r2, r3, r4, rz⟩ := fr2); (obtain ⟨a5, c5, rfl⟩ := owns_shape hown)); (first | refine hK.out _ _ ?_ (fun hHeld2 => ?_) | (go_wp2_with fail; refine hK.out _ _ ?_ (fun hHeld2 => ?_))); (focus ((try dsimp only); (go_split_ands; (repeat' with_reducible apply And.intro) <;> first | with_reducible assumption | with_reducible exact Res9.drew (by with_reducible assumption) | with_reducible exact Res9.drew (Res9.alloc (by with_reducible assumption) _) | with_reducible exact Res9.alloc (by with_reducible assumption) _ | with_reducible exact Res9.alloc (Res9.drew (by with_reducible assumption)) _ | with_reducible exact (Res9.set (Res9.set (by with_reducible assumption) 0 _ (by omega)) 1 _ (by omega)) | with_reducible exact Res9.drew (Res9.set (Res9.set (by with_reducible assumption) 0 _ (by omega)) 1 _ (by omega)) | ((repeat (first | with_reducible exact Below.refl _ _ | with_reducible assumption | with_reducible refine balloc ?_ _ | with_reducible refine bdrew ?_ | with_reducible refine below_drewN ?_ _ | with_reducible refine bset ?_ ?_ _ | with_reducible exact Nat.le_refl _ | with_reducible refine bsize ?_ | (dsimp only; refine Nat.le_trans ?_ (Nat.le_add_right _ _)) | with_reducible refine Nat.le_trans ?_ (Nat.le_add_right _ _) | (with_reducible refine bstep ?_ (by assumption)))); done) | (simp [go_sem]; done) | (simp; omega) | (simp [go_sem, *]; done) | go_keep))); clear hK K; (try clear hHeld1); (try simp only [Act.put, List.setIfInBounds_toArray, List.set_cons_zero, List.set_cons_succ]))
        (refine wpAnyH_take (i := 13) (oi := { dst := some 32, op := Op.build 41 #[(0, Operand.tmp 20), (1, Operand.tmp 31)], type := 41, pos := "l9_puzzle.go:301", after := #[{ on := 1, ground := Ground.data }, { on := 12, ground := Ground.data }], guard := none }) (v := ?_) rfl (by kernel_rfl) (by kernel_rfl) (by kernel_rfl) (fun _ _ _ h => h) (Or.inl ⟨by rfl, ?_⟩) (by assumption) ?_; rotate_left; (focus (intro w hSw; (try dsimp only at hSw); go_simp; try with_reducible rfl)); (try simp only [Act.put, List.setIfInBounds_toArray, List.set_cons_zero, List.set_cons_succ]))
        (refine wpAnyH_ready (rs := [14]) (by kernel_rfl) (by simp) ?_; refine AllReadyH.cons (o := { dst := none, op := Op.store 41 (Operand.tmp 4) (Operand.tmp 32), type := 0, pos := "l9_puzzle.go:301", after := #[{ on := 13, ground := Ground.data }, { on := 12, ground := Ground.chain }, { on := 0, ground := Ground.phase }, { on := 1, ground := Ground.phase }, { on := 2, ground := Ground.phase }, { on := 3, ground := Ground.phase }, { on := 4, ground := Ground.phase }, { on := 5, ground := Ground.phase }, { on := 6, ground := Ground.phase }, { on := 7, ground := Ground.phase }, { on := 8, ground := Ground.phase }, { on := 9, ground := Ground.phase }, { on := 10, ground := Ground.phase }, { on := 11, ground := Ground.phase }, { on := 12, ground := Ground.phase }, { on := 13, ground := Ground.phase }], guard := none }) rfl (fun K hK => ?_) AllReadyH.nil; go_simp; skip; (first | refine hK.out _ _ ?_ (fun hHeld3 => ?_) | (go_wp2_with fail; refine hK.out _ _ ?_ (fun hHeld3 => ?_))); (focus ((try dsimp only); (go_split_ands; (repeat' with_reducible apply And.intro) <;> first | with_reducible assumption | with_reducible exact Res9.drew (by with_reducible assumption) | with_reducible exact Res9.drew (Res9.alloc (by with_reducible assumption) _) | with_reducible exact Res9.alloc (by with_reducible assumption) _ | with_reducible exact Res9.alloc (Res9.drew (by with_reducible assumption)) _ | with_reducible exact (Res9.set (Res9.set (by with_reducible assumption) 0 _ (by omega)) 1 _ (by omega)) | with_reducible exact Res9.drew (Res9.set (Res9.set (by with_reducible assumption) 0 _ (by omega)) 1 _ (by omega)) | ((repeat (first | with_reducible exact Below.refl _ _ | with_reducible assumption | with_reducible refine balloc ?_ _ | with_reducible refine bdrew ?_ | with_reducible refine below_drewN ?_ _ | with_reducible refine bset ?_ ?_ _ | with_reducible exact Nat.le_refl _ | with_reducible refine bsize ?_ | (dsimp only; refine Nat.le_trans ?_ (Nat.le_add_right _ _)) | with_reducible refine Nat.le_trans ?_ (Nat.le_add_right _ _) | (with_reducible refine bstep ?_ (by assumption)))); done) | (simp [go_sem]; done) | (simp; omega) | (simp [go_sem, *]; done) | go_keep))); clear hK K; (try clear hHeld2); (try simp only [Act.put, List.setIfInBounds_toArray, List.set_cons_zero, List.set_cons_succ]))
        (refine wpAnyH_take (i := 15) (oi := { dst := some 5, op := Op.assign (Operand.const (Value.bool true)), type := 4, pos := "l9_puzzle.go:301", after := #[{ on := 14, ground := Ground.chain }, { on := 0, ground := Ground.phase }, { on := 1, ground := Ground.phase }, { on := 2, ground := Ground.phase }, { on := 3, ground := Ground.phase }, { on := 4, ground := Ground.phase }, { on := 5, ground := Ground.phase }, { on := 6, ground := Ground.phase }, { on := 7, ground := Ground.phase }, { on := 8, ground := Ground.phase }, { on := 9, ground := Ground.phase }, { on := 10, ground := Ground.phase }, { on := 11, ground := Ground.phase }, { on := 12, ground := Ground.phase }, { on := 13, ground := Ground.phase }, { on := 14, ground := Ground.phase }], guard := none }) (v := ?_) rfl (by kernel_rfl) (by kernel_rfl) (by kernel_rfl) (fun _ _ _ h => h) (Or.inl ⟨by rfl, ?_⟩) (by assumption) ?_; rotate_left; (focus (intro w hSw; (try dsimp only at hSw); go_simp; try with_reducible rfl)); (try simp only [Act.put, List.setIfInBounds_toArray, List.set_cons_zero, List.set_cons_succ]))
        refine wpAnyH_done (by kernel_rfl) ?_ _
        (try refine NoPanic.normal ?_)
        all_goals go_wp2
        all_goals refine bodyPost_ret (v := .tuple #[.agg #[.int .i64 m, .slice a5 L.length c5], .bool true]) (by simp only [results, Try.results69]; go_simp) rfl ?_
        all_goals exact ⟨_, rfl, own_set (own_set (own_mono hown (by simp; omega)) (own_ne hown (b := w.heap.size + 1) (by simp; omega)) _) (own_ne hown (b := w.heap.size + 1) (by simp; omega)) _, by (repeat (first | with_reducible exact Below.refl _ _ | with_reducible assumption | with_reducible refine balloc ?_ _ | with_reducible refine bdrew ?_ | with_reducible refine below_drewN ?_ _ | with_reducible refine bset ?_ ?_ _ | with_reducible exact Nat.le_refl _ | with_reducible refine bsize ?_ | (dsimp only; refine Nat.le_trans ?_ (Nat.le_add_right _ _)) | with_reducible refine Nat.le_trans ?_ (Nat.le_add_right _ _) | (with_reducible refine bstep ?_ (by assumption))))⟩

set_option maxHeartbeats 6400000 in
theorem without_spec (a : Addr) (cap : Nat) (l : List ClueV) (n : Nat) (hkn : n < l.length) (hn : l.length ≤ 1048576) (w : World) (hL : LiesG 3 fClue w a cap l) :
    Calls Try.prog 68 #[.slice (some a) l.length cap, .int .i64 n] w (EndL 27 3 fClue (l.take n ++ l.drop (n + 1)) w) := by
  obtain ⟨i0, hi, hz0, hz1, hz2⟩ := info_parts infoClue
  have hlc := hL.hlc
  have hcap := hL.hcap
  have HL := Lib.hid hL
  clear hL
  by_cases g2 : cap = n + 1
  · have hm1 : l.length = n + 1 := by omega
    subst g2
    have hd : l.drop (n + 1) = [] := List.drop_of_length_le (by omega)
    rw [hd, List.append_nil]
    clear hd
    have hm2 := Lib.hid hm1
    rw [hm1] at hlc hkn hn ⊢
    clear hm1
    go_enter Try.func68, Try.ntmps68
    go_upto_region 1 with fail
    have g1 : n ≤ (n + 1) := by omega
    have g3 : n ≤ (n + 1) := by omega
    have g4 : n + 1 ≤ (n + 1) := by omega
    have g5 : n + 1 ≤ (n + 1) := by omega
    have wq1 : IntKind.i64.wrap ((n : Int) + 1) = (n : Int) + 1 := IntWalk.i64_in _ (by omega)
    have wq2 : (0 : Int) ≤ (n : Int) + 1 := by omega
    have wq3 : (n : Int) + 1 ≤ (((n + 1) : Nat) : Int) := by omega
    have wq4 : ((n : Int) + 1).toNat = n + 1 := by omega
    have wq5 : (n : Int) ≤ (n : Int) + 1 := by omega
    have wq6 : (n : Int) ≤ (((n + 1) : Nat) : Int) := by omega
    refine wp_region_noPanic ?_
    refine wp_region_held_drew (S := (fun W => Below w.heap.size w W)) (by kernel_rfl) ?_ (fun hHeld0 => ?_)
    · (try dsimp only); (first | with_reducible assumption | ((repeat (first | with_reducible exact Below.refl _ _ | with_reducible assumption | with_reducible refine balloc ?_ _ | with_reducible refine bdrew ?_ | with_reducible refine below_drewN ?_ _ | with_reducible refine bset ?_ ?_ _ | with_reducible exact Nat.le_refl _ | with_reducible refine bsize ?_ | (dsimp only; refine Nat.le_trans ?_ (Nat.le_add_right _ _)) | with_reducible refine Nat.le_trans ?_ (Nat.le_add_right _ _) | (with_reducible refine bstep ?_ (by assumption)))); done))
    (refine wpAnyH_take (i := 1) (oi := { dst := some 6, op := Op.move (Operand.tmp 0), type := 39, pos := "l9_puzzle.go:180", after := #[], guard := none }) (v := ?_) rfl (by kernel_rfl) (by kernel_rfl) (by kernel_rfl) (fun _ _ _ h => h) (Or.inl ⟨by rfl, ?_⟩) (by assumption) ?_; rotate_left; (focus (intro w hSw; (try dsimp only at hSw); go_simp; try with_reducible rfl)); (try simp only [Act.put, List.setIfInBounds_toArray, List.set_cons_zero, List.set_cons_succ]))
    (refine wpAnyH_take (i := 2) (oi := { dst := some 7, op := Op.move (Operand.tmp 1), type := 3, pos := "l9_puzzle.go:180", after := #[], guard := none }) (v := ?_) rfl (by kernel_rfl) (by kernel_rfl) (by kernel_rfl) (fun _ _ _ h => h) (Or.inl ⟨by rfl, ?_⟩) (by assumption) ?_; rotate_left; (focus (intro w hSw; (try dsimp only at hSw); go_simp; try with_reducible rfl)); (try simp only [Act.put, List.setIfInBounds_toArray, List.set_cons_zero, List.set_cons_succ]))
    (refine wpAnyH_take (i := 3) (oi := { dst := some 8, op := Op.slice 39 (Operand.tmp 6) none (some (Operand.tmp 7)) none, type := 39, pos := "l9_puzzle.go:180", after := #[{ on := 1, ground := Ground.data }, { on := 2, ground := Ground.data }], guard := none }) (v := ?_) rfl (by kernel_rfl) (by kernel_rfl) (by kernel_rfl) (fun _ _ _ h => h) (Or.inl ⟨by rfl, ?_⟩) (by assumption) ?_; rotate_left; (focus (intro w hSw; (try dsimp only at hSw); go_simp; try with_reducible rfl)); (try simp only [Act.put, List.setIfInBounds_toArray, List.set_cons_zero, List.set_cons_succ]))
    (refine wpAnyH_take (i := 5) (oi := { dst := some 10, op := Op.move (Operand.tmp 0), type := 39, pos := "l9_puzzle.go:180", after := #[], guard := none }) (v := ?_) rfl (by kernel_rfl) (by kernel_rfl) (by kernel_rfl) (fun _ _ _ h => h) (Or.inl ⟨by rfl, ?_⟩) (by assumption) ?_; rotate_left; (focus (intro w hSw; (try dsimp only at hSw); go_simp; try with_reducible rfl)); (try simp only [Act.put, List.setIfInBounds_toArray, List.set_cons_zero, List.set_cons_succ]))
    (refine wpAnyH_take (i := 6) (oi := { dst := some 11, op := Op.move (Operand.tmp 1), type := 3, pos := "l9_puzzle.go:180", after := #[], guard := none }) (v := ?_) rfl (by kernel_rfl) (by kernel_rfl) (by kernel_rfl) (fun _ _ _ h => h) (Or.inl ⟨by rfl, ?_⟩) (by assumption) ?_; rotate_left; (focus (intro w hSw; (try dsimp only at hSw); go_simp; try with_reducible rfl)); (try simp only [Act.put, List.setIfInBounds_toArray, List.set_cons_zero, List.set_cons_succ]))
    (refine wpAnyH_take (i := 7) (oi := { dst := some 12, op := Op.binOp BinOp.add 3 (Operand.tmp 11) (Operand.const (Value.int IntKind.i64 1)) 3, type := 3, pos := "l9_puzzle.go:180", after := #[{ on := 6, ground := Ground.data }], guard := none }) (v := ?_) rfl (by kernel_rfl) (by kernel_rfl) (by kernel_rfl) (fun _ _ _ h => h) (Or.inl ⟨by rfl, ?_⟩) (by assumption) ?_; rotate_left; (focus (intro w hSw; (try dsimp only at hSw); go_simp; try with_reducible rfl)); (try simp only [Act.put, List.setIfInBounds_toArray, List.set_cons_zero, List.set_cons_succ]))
    (refine wpAnyH_take (i := 8) (oi := { dst := some 13, op := Op.slice 39 (Operand.tmp 10) (some (Operand.tmp 12)) none none, type := 39, pos := "l9_puzzle.go:180", after := #[{ on := 5, ground := Ground.data }, { on := 7, ground := Ground.data }], guard := none }) (v := ?_) rfl (by kernel_rfl) (by kernel_rfl) (by kernel_rfl) (fun _ _ _ h => h) (Or.inl ⟨by rfl, ?_⟩) (by assumption) ?_; rotate_left; (focus (intro w hSw; (try dsimp only at hSw); go_simp; try with_reducible rfl)); (try simp only [Act.put, List.setIfInBounds_toArray, List.set_cons_zero, List.set_cons_succ]))
    (refine wpAnyH_ready (rs := [0]) (by kernel_rfl) (by simp) ?_; refine AllReadyH.cons (o := { dst := some 5, op := Op.buildSlice 39 0 #[], type := 39, pos := "l9_puzzle.go:180", after := #[], guard := none }) rfl (fun K hK => ?_) AllReadyH.nil; go_simp; skip; (first | refine hK.out _ _ ?_ (fun hHeld1 => ?_) | (go_wp2_with fail; refine hK.out _ _ ?_ (fun hHeld1 => ?_))); (focus ((try dsimp only); (first | with_reducible assumption | ((repeat (first | with_reducible exact Below.refl _ _ | with_reducible assumption | with_reducible refine balloc ?_ _ | with_reducible refine bdrew ?_ | with_reducible refine below_drewN ?_ _ | with_reducible refine bset ?_ ?_ _ | with_reducible exact Nat.le_refl _ | with_reducible refine bsize ?_ | (dsimp only; refine Nat.le_trans ?_ (Nat.le_add_right _ _)) | with_reducible refine Nat.le_trans ?_ (Nat.le_add_right _ _) | (with_reducible refine bstep ?_ (by assumption)))); done)))); clear hK K; (try clear hHeld0); (try simp only [Act.put, List.setIfInBounds_toArray, List.set_cons_zero, List.set_cons_succ]))
    (refine wpAnyH_ready (rs := [4]) (by kernel_rfl) (by simp) ?_; refine AllReadyH.cons (o := { dst := some 9, op := Op.call { callee := Callee.builtin Builtin.append, args := #[Operand.tmp 5, Operand.tmp 8], argTypes := #[39, 39] }, type := 39, pos := "l9_puzzle.go:180", after := #[{ on := 0, ground := Ground.data }, { on := 3, ground := Ground.data }], guard := none }) rfl (fun K hK => ?_) AllReadyH.nil; (refine step_append_own rfl (.tmp 5) (.tmp 8) 39 rfl (w.heap.size) 27 i0 (.agg #[.int .i64 0, .int .i64 0, .int .i64 0]) 3 24 Try.underlying39 hi hz0 hz1 hz2 rfl (by decide) (.slice (some ⟨w.heap.size, 0, none⟩) 0 0) 0 [] ?c6 ?own a n (n + 1) (cellsG fClue (l.take n)) ?c7 ?c8 ?c1 (cellsG_one _ _) ?c3 ?c4 ?c5 ?_; (case own => first | exact (own_drew (World.ownsRow_made (size := 3) w #[] 0 (Nat.le_refl _) (by unfold maxLen; omega) rfl)) | exact (World.ownsRow_made (size := 3) w #[] 0 (Nat.le_refl _) (by unfold maxLen; omega) rfl) | (repeat (first | with_reducible assumption | with_reducible refine own_alloc ?_ _ | with_reducible refine own_drew ?_ | with_reducible refine own_set ?_ ?_ _))); (case c1 => exact liesG_cells fClue_len (by decide) (liesG_take (liesG_below HL.out (by (repeat (first | with_reducible exact Below.refl _ _ | with_reducible assumption | with_reducible refine balloc ?_ _ | with_reducible refine bdrew ?_ | with_reducible refine below_drewN ?_ _ | with_reducible refine bset ?_ ?_ _ | with_reducible exact Nat.le_refl _ | with_reducible refine bsize ?_ | (dsimp only; refine Nat.le_trans ?_ (Nat.le_add_right _ _)) | with_reducible refine Nat.le_trans ?_ (Nat.le_add_right _ _) | (with_reducible refine bstep ?_ (by assumption)))))) n (by have := hm2.out; omega))); (case c3 => unfold maxLen; omega); (case c4 => omega); (case c5 => first | ((repeat (first | with_reducible exact Below.refl _ _ | with_reducible assumption | with_reducible refine balloc ?_ _ | with_reducible refine bdrew ?_ | with_reducible refine below_drewN ?_ _ | with_reducible refine bset ?_ ?_ _ | with_reducible exact Nat.le_refl _ | with_reducible refine bsize ?_ | (dsimp only; refine Nat.le_trans ?_ (Nat.le_add_right _ _)) | with_reducible refine Nat.le_trans ?_ (Nat.le_add_right _ _) | (with_reducible refine bstep ?_ (by assumption)))); done) | (simp; omega)); (case c6 => simp [Act.eval, Act.put]); (case c7 => simp [Act.eval, Act.put]); (case c8 => first | (rw [cellsG_len fClue_len, List.length_take, Nat.min_eq_left (by have := hm2.out; omega)]; done) | (rw [cellsG_len fClue_len]; done) | (rw [cellsG_len fClue_len, List.length_drop]; done) | (rw [cellsG_len fClue_len, List.length_take, Nat.min_eq_left (by omega)]; done)); intro v4 w4 hown4 hgr4; (obtain ⟨aq4, cq4, rfl⟩ := owns_shape hown4); (have f4 : Below w.heap.size w w4 := grown_bel (base := w.heap.size) (by first | with_reducible assumption | ((repeat (first | with_reducible exact Below.refl _ _ | with_reducible assumption | with_reducible refine balloc ?_ _ | with_reducible refine bdrew ?_ | with_reducible refine below_drewN ?_ _ | with_reducible refine bset ?_ ?_ _ | with_reducible exact Nat.le_refl _ | with_reducible refine bsize ?_ | (dsimp only; refine Nat.le_trans ?_ (Nat.le_add_right _ _)) | with_reducible refine Nat.le_trans ?_ (Nat.le_add_right _ _) | (with_reducible refine bstep ?_ (by assumption)))); done)) hgr4 (own_drew (World.ownsRow_made (size := 3) w #[] 0 (Nat.le_refl _) (by unfold maxLen; omega) rfl)) (Nat.le_refl _))); (first | refine hK.out _ _ ?_ (fun hHeld2 => ?_) | (go_wp2_with fail; refine hK.out _ _ ?_ (fun hHeld2 => ?_))); (focus ((try dsimp only); (first | with_reducible assumption | ((repeat (first | with_reducible exact Below.refl _ _ | with_reducible assumption | with_reducible refine balloc ?_ _ | with_reducible refine bdrew ?_ | with_reducible refine below_drewN ?_ _ | with_reducible refine bset ?_ ?_ _ | with_reducible exact Nat.le_refl _ | with_reducible refine bsize ?_ | (dsimp only; refine Nat.le_trans ?_ (Nat.le_add_right _ _)) | with_reducible refine Nat.le_trans ?_ (Nat.le_add_right _ _) | (with_reducible refine bstep ?_ (by assumption)))); done)))); clear hK K; (try clear hHeld1); (try simp only [Act.put, List.setIfInBounds_toArray, List.set_cons_zero, List.set_cons_succ]))
    (refine wpAnyH_ready (rs := [9]) (by kernel_rfl) (by simp) ?_; refine AllReadyH.cons (o := { dst := some 14, op := Op.call { callee := Callee.builtin Builtin.append, args := #[Operand.tmp 9, Operand.tmp 13], argTypes := #[39, 39] }, type := 39, pos := "l9_puzzle.go:180", after := #[{ on := 4, ground := Ground.data }, { on := 8, ground := Ground.data }, { on := 4, ground := Ground.chain }], guard := none }) rfl (fun K hK => ?_) AllReadyH.nil; (refine step_append_own rfl (.tmp 9) (.tmp 13) 39 rfl (w.heap.size) 27 i0 (.agg #[.int .i64 0, .int .i64 0, .int .i64 0]) 3 24 Try.underlying39 hi hz0 hz1 hz2 rfl (by decide) (.slice aq4 (0 + n) cq4) (0 + n) ([] ++ cellsG fClue (l.take n)) ?c6 ?own a 0 0 (cellsG fClue ([] : List ClueV)) ?c7 ?c8 ?c1 (cellsG_one _ _) ?c3 ?c4 ?c5 ?_; (case own => first | (repeat (first | with_reducible assumption | with_reducible refine own_alloc ?_ _ | with_reducible refine own_drew ?_ | with_reducible refine own_set ?_ ?_ _))); (case c1 => exact liesG_cells fClue_len (by decide) (lies_nilG (by omega))); (case c3 => unfold maxLen; omega); (case c4 => omega); (case c5 => first | ((repeat (first | with_reducible exact Below.refl _ _ | with_reducible assumption | with_reducible refine balloc ?_ _ | with_reducible refine bdrew ?_ | with_reducible refine below_drewN ?_ _ | with_reducible refine bset ?_ ?_ _ | with_reducible exact Nat.le_refl _ | with_reducible refine bsize ?_ | (dsimp only; refine Nat.le_trans ?_ (Nat.le_add_right _ _)) | with_reducible refine Nat.le_trans ?_ (Nat.le_add_right _ _) | (with_reducible refine bstep ?_ (by assumption)))); done) | (simp; omega)); (case c6 => simp [Act.eval, Act.put]); (case c7 => simp [Act.eval, Act.put]); (case c8 => first | rfl | (rw [cellsG_len fClue_len]; done) | (rw [cellsG_len fClue_len, List.length_drop]; done) | (rw [cellsG_len fClue_len, List.length_take, Nat.min_eq_left (by omega)]; done)); intro v9 w5 hown9 hgr9; (obtain ⟨aq9, cq9, rfl⟩ := owns_shape hown9); (have f5 : Below w.heap.size w w5 := grown_bel (base := w.heap.size) (by first | with_reducible assumption | ((repeat (first | with_reducible exact Below.refl _ _ | with_reducible assumption | with_reducible refine balloc ?_ _ | with_reducible refine bdrew ?_ | with_reducible refine below_drewN ?_ _ | with_reducible refine bset ?_ ?_ _ | with_reducible exact Nat.le_refl _ | with_reducible refine bsize ?_ | (dsimp only; refine Nat.le_trans ?_ (Nat.le_add_right _ _)) | with_reducible refine Nat.le_trans ?_ (Nat.le_add_right _ _) | (with_reducible refine bstep ?_ (by assumption)))); done)) hgr9 hown4 (Nat.le_refl _))); (first | refine hK.out _ _ ?_ (fun hHeld3 => ?_) | (go_wp2_with fail; refine hK.out _ _ ?_ (fun hHeld3 => ?_))); (focus ((try dsimp only); (first | with_reducible assumption | ((repeat (first | with_reducible exact Below.refl _ _ | with_reducible assumption | with_reducible refine balloc ?_ _ | with_reducible refine bdrew ?_ | with_reducible refine below_drewN ?_ _ | with_reducible refine bset ?_ ?_ _ | with_reducible exact Nat.le_refl _ | with_reducible refine bsize ?_ | (dsimp only; refine Nat.le_trans ?_ (Nat.le_add_right _ _)) | with_reducible refine Nat.le_trans ?_ (Nat.le_add_right _ _) | (with_reducible refine bstep ?_ (by assumption)))); done)))); clear hK K; (try clear hHeld2); (try simp only [Act.put, List.setIfInBounds_toArray, List.set_cons_zero, List.set_cons_succ]))
    (refine wpAnyH_take (i := 10) (oi := { dst := some 4, op := Op.assign (Operand.tmp 14), type := 39, pos := "l9_puzzle.go:180", after := #[{ on := 9, ground := Ground.data }, { on := 9, ground := Ground.chain }, { on := 0, ground := Ground.phase }, { on := 1, ground := Ground.phase }, { on := 2, ground := Ground.phase }, { on := 3, ground := Ground.phase }, { on := 4, ground := Ground.phase }, { on := 5, ground := Ground.phase }, { on := 6, ground := Ground.phase }, { on := 7, ground := Ground.phase }, { on := 8, ground := Ground.phase }, { on := 9, ground := Ground.phase }], guard := none }) (v := ?_) rfl (by kernel_rfl) (by kernel_rfl) (by kernel_rfl) (fun _ _ _ h => h) (Or.inl ⟨by rfl, ?_⟩) (by assumption) ?_; rotate_left; (focus (intro w hSw; (try dsimp only at hSw); go_simp; try with_reducible rfl)); (try simp only [Act.put, List.setIfInBounds_toArray, List.set_cons_zero, List.set_cons_succ]))
    refine wpAnyH_done (by kernel_rfl) ?_ _
    (try refine NoPanic.normal ?_)
    all_goals go_wp2
    all_goals go_ret
    all_goals exact ⟨_, rfl, by have h := hown9; simp [cellsG] at h; rw [List.length_take, Nat.min_eq_left (by have := hm2.out; omega)]; simpa [cellsG] using h, f5⟩
  · obtain ⟨mm, hm⟩ : ∃ mm, l.length = mm := ⟨_, rfl⟩
    have hm2 := Lib.hid hm
    rw [hm] at hlc hkn hn ⊢
    clear hm
    go_enter Try.func68, Try.ntmps68
    go_upto_region 1 with fail
    have g1 : n ≤ mm := by omega
    have g3 : n ≤ cap := by omega
    have g4 : n + 1 ≤ mm := by omega
    have g5 : n + 1 ≤ cap := by omega
    have wq1 : IntKind.i64.wrap ((n : Int) + 1) = (n : Int) + 1 := IntWalk.i64_in _ (by omega)
    have wq2 : (0 : Int) ≤ (n : Int) + 1 := by omega
    have wq3 : (n : Int) + 1 ≤ ((mm : Nat) : Int) := by omega
    have wq4 : ((n : Int) + 1).toNat = n + 1 := by omega
    have wq5 : (n : Int) ≤ (n : Int) + 1 := by omega
    have wq6 : (n : Int) ≤ ((cap : Nat) : Int) := by omega
    refine wp_region_noPanic ?_
    refine wp_region_held_drew (S := (fun W => Below w.heap.size w W)) (by kernel_rfl) ?_ (fun hHeld0 => ?_)
    · (try dsimp only); (first | with_reducible assumption | ((repeat (first | with_reducible exact Below.refl _ _ | with_reducible assumption | with_reducible refine balloc ?_ _ | with_reducible refine bdrew ?_ | with_reducible refine below_drewN ?_ _ | with_reducible refine bset ?_ ?_ _ | with_reducible exact Nat.le_refl _ | with_reducible refine bsize ?_ | (dsimp only; refine Nat.le_trans ?_ (Nat.le_add_right _ _)) | with_reducible refine Nat.le_trans ?_ (Nat.le_add_right _ _) | (with_reducible refine bstep ?_ (by assumption)))); done))
    (refine wpAnyH_take (i := 1) (oi := { dst := some 6, op := Op.move (Operand.tmp 0), type := 39, pos := "l9_puzzle.go:180", after := #[], guard := none }) (v := ?_) rfl (by kernel_rfl) (by kernel_rfl) (by kernel_rfl) (fun _ _ _ h => h) (Or.inl ⟨by rfl, ?_⟩) (by assumption) ?_; rotate_left; (focus (intro w hSw; (try dsimp only at hSw); go_simp; try with_reducible rfl)); (try simp only [Act.put, List.setIfInBounds_toArray, List.set_cons_zero, List.set_cons_succ]))
    (refine wpAnyH_take (i := 2) (oi := { dst := some 7, op := Op.move (Operand.tmp 1), type := 3, pos := "l9_puzzle.go:180", after := #[], guard := none }) (v := ?_) rfl (by kernel_rfl) (by kernel_rfl) (by kernel_rfl) (fun _ _ _ h => h) (Or.inl ⟨by rfl, ?_⟩) (by assumption) ?_; rotate_left; (focus (intro w hSw; (try dsimp only at hSw); go_simp; try with_reducible rfl)); (try simp only [Act.put, List.setIfInBounds_toArray, List.set_cons_zero, List.set_cons_succ]))
    (refine wpAnyH_take (i := 3) (oi := { dst := some 8, op := Op.slice 39 (Operand.tmp 6) none (some (Operand.tmp 7)) none, type := 39, pos := "l9_puzzle.go:180", after := #[{ on := 1, ground := Ground.data }, { on := 2, ground := Ground.data }], guard := none }) (v := ?_) rfl (by kernel_rfl) (by kernel_rfl) (by kernel_rfl) (fun _ _ _ h => h) (Or.inl ⟨by rfl, ?_⟩) (by assumption) ?_; rotate_left; (focus (intro w hSw; (try dsimp only at hSw); go_simp; try with_reducible rfl)); (try simp only [Act.put, List.setIfInBounds_toArray, List.set_cons_zero, List.set_cons_succ]))
    (refine wpAnyH_take (i := 5) (oi := { dst := some 10, op := Op.move (Operand.tmp 0), type := 39, pos := "l9_puzzle.go:180", after := #[], guard := none }) (v := ?_) rfl (by kernel_rfl) (by kernel_rfl) (by kernel_rfl) (fun _ _ _ h => h) (Or.inl ⟨by rfl, ?_⟩) (by assumption) ?_; rotate_left; (focus (intro w hSw; (try dsimp only at hSw); go_simp; try with_reducible rfl)); (try simp only [Act.put, List.setIfInBounds_toArray, List.set_cons_zero, List.set_cons_succ]))
    (refine wpAnyH_take (i := 6) (oi := { dst := some 11, op := Op.move (Operand.tmp 1), type := 3, pos := "l9_puzzle.go:180", after := #[], guard := none }) (v := ?_) rfl (by kernel_rfl) (by kernel_rfl) (by kernel_rfl) (fun _ _ _ h => h) (Or.inl ⟨by rfl, ?_⟩) (by assumption) ?_; rotate_left; (focus (intro w hSw; (try dsimp only at hSw); go_simp; try with_reducible rfl)); (try simp only [Act.put, List.setIfInBounds_toArray, List.set_cons_zero, List.set_cons_succ]))
    (refine wpAnyH_take (i := 7) (oi := { dst := some 12, op := Op.binOp BinOp.add 3 (Operand.tmp 11) (Operand.const (Value.int IntKind.i64 1)) 3, type := 3, pos := "l9_puzzle.go:180", after := #[{ on := 6, ground := Ground.data }], guard := none }) (v := ?_) rfl (by kernel_rfl) (by kernel_rfl) (by kernel_rfl) (fun _ _ _ h => h) (Or.inl ⟨by rfl, ?_⟩) (by assumption) ?_; rotate_left; (focus (intro w hSw; (try dsimp only at hSw); go_simp; try with_reducible rfl)); (try simp only [Act.put, List.setIfInBounds_toArray, List.set_cons_zero, List.set_cons_succ]))
    (refine wpAnyH_take (i := 8) (oi := { dst := some 13, op := Op.slice 39 (Operand.tmp 10) (some (Operand.tmp 12)) none none, type := 39, pos := "l9_puzzle.go:180", after := #[{ on := 5, ground := Ground.data }, { on := 7, ground := Ground.data }], guard := none }) (v := ?_) rfl (by kernel_rfl) (by kernel_rfl) (by kernel_rfl) (fun _ _ _ h => h) (Or.inl ⟨by rfl, ?_⟩) (by assumption) ?_; rotate_left; (focus (intro w hSw; (try dsimp only at hSw); go_simp; try with_reducible rfl)); (try simp only [Act.put, List.setIfInBounds_toArray, List.set_cons_zero, List.set_cons_succ]))
    (refine wpAnyH_ready (rs := [0]) (by kernel_rfl) (by simp) ?_; refine AllReadyH.cons (o := { dst := some 5, op := Op.buildSlice 39 0 #[], type := 39, pos := "l9_puzzle.go:180", after := #[], guard := none }) rfl (fun K hK => ?_) AllReadyH.nil; go_simp; skip; (first | refine hK.out _ _ ?_ (fun hHeld1 => ?_) | (go_wp2_with fail; refine hK.out _ _ ?_ (fun hHeld1 => ?_))); (focus ((try dsimp only); (first | with_reducible assumption | ((repeat (first | with_reducible exact Below.refl _ _ | with_reducible assumption | with_reducible refine balloc ?_ _ | with_reducible refine bdrew ?_ | with_reducible refine below_drewN ?_ _ | with_reducible refine bset ?_ ?_ _ | with_reducible exact Nat.le_refl _ | with_reducible refine bsize ?_ | (dsimp only; refine Nat.le_trans ?_ (Nat.le_add_right _ _)) | with_reducible refine Nat.le_trans ?_ (Nat.le_add_right _ _) | (with_reducible refine bstep ?_ (by assumption)))); done)))); clear hK K; (try clear hHeld0); (try simp only [Act.put, List.setIfInBounds_toArray, List.set_cons_zero, List.set_cons_succ]))
    (refine wpAnyH_ready (rs := [4]) (by kernel_rfl) (by simp) ?_; refine AllReadyH.cons (o := { dst := some 9, op := Op.call { callee := Callee.builtin Builtin.append, args := #[Operand.tmp 5, Operand.tmp 8], argTypes := #[39, 39] }, type := 39, pos := "l9_puzzle.go:180", after := #[{ on := 0, ground := Ground.data }, { on := 3, ground := Ground.data }], guard := none }) rfl (fun K hK => ?_) AllReadyH.nil; (refine step_append_own rfl (.tmp 5) (.tmp 8) 39 rfl (w.heap.size) 27 i0 (.agg #[.int .i64 0, .int .i64 0, .int .i64 0]) 3 24 Try.underlying39 hi hz0 hz1 hz2 rfl (by decide) (.slice (some ⟨w.heap.size, 0, none⟩) 0 0) 0 [] ?c6 ?own a n cap (cellsG fClue (l.take n)) ?c7 ?c8 ?c1 (cellsG_one _ _) ?c3 ?c4 ?c5 ?_; (case own => first | exact (own_drew (World.ownsRow_made (size := 3) w #[] 0 (Nat.le_refl _) (by unfold maxLen; omega) rfl)) | exact (World.ownsRow_made (size := 3) w #[] 0 (Nat.le_refl _) (by unfold maxLen; omega) rfl) | (repeat (first | with_reducible assumption | with_reducible refine own_alloc ?_ _ | with_reducible refine own_drew ?_ | with_reducible refine own_set ?_ ?_ _))); (case c1 => exact liesG_cells fClue_len (by decide) (liesG_take (liesG_below HL.out (by (repeat (first | with_reducible exact Below.refl _ _ | with_reducible assumption | with_reducible refine balloc ?_ _ | with_reducible refine bdrew ?_ | with_reducible refine below_drewN ?_ _ | with_reducible refine bset ?_ ?_ _ | with_reducible exact Nat.le_refl _ | with_reducible refine bsize ?_ | (dsimp only; refine Nat.le_trans ?_ (Nat.le_add_right _ _)) | with_reducible refine Nat.le_trans ?_ (Nat.le_add_right _ _) | (with_reducible refine bstep ?_ (by assumption)))))) n (by have := hm2.out; omega))); (case c3 => unfold maxLen; omega); (case c4 => omega); (case c5 => first | ((repeat (first | with_reducible exact Below.refl _ _ | with_reducible assumption | with_reducible refine balloc ?_ _ | with_reducible refine bdrew ?_ | with_reducible refine below_drewN ?_ _ | with_reducible refine bset ?_ ?_ _ | with_reducible exact Nat.le_refl _ | with_reducible refine bsize ?_ | (dsimp only; refine Nat.le_trans ?_ (Nat.le_add_right _ _)) | with_reducible refine Nat.le_trans ?_ (Nat.le_add_right _ _) | (with_reducible refine bstep ?_ (by assumption)))); done) | (simp; omega)); (case c6 => simp [Act.eval, Act.put]); (case c7 => simp [Act.eval, Act.put]); (case c8 => first | (rw [cellsG_len fClue_len, List.length_take, Nat.min_eq_left (by have := hm2.out; omega)]; done) | (rw [cellsG_len fClue_len]; done) | (rw [cellsG_len fClue_len, List.length_drop]; done) | (rw [cellsG_len fClue_len, List.length_take, Nat.min_eq_left (by omega)]; done)); intro v4 w4 hown4 hgr4; (obtain ⟨aq4, cq4, rfl⟩ := owns_shape hown4); (have f4 : Below w.heap.size w w4 := grown_bel (base := w.heap.size) (by first | with_reducible assumption | ((repeat (first | with_reducible exact Below.refl _ _ | with_reducible assumption | with_reducible refine balloc ?_ _ | with_reducible refine bdrew ?_ | with_reducible refine below_drewN ?_ _ | with_reducible refine bset ?_ ?_ _ | with_reducible exact Nat.le_refl _ | with_reducible refine bsize ?_ | (dsimp only; refine Nat.le_trans ?_ (Nat.le_add_right _ _)) | with_reducible refine Nat.le_trans ?_ (Nat.le_add_right _ _) | (with_reducible refine bstep ?_ (by assumption)))); done)) hgr4 (own_drew (World.ownsRow_made (size := 3) w #[] 0 (Nat.le_refl _) (by unfold maxLen; omega) rfl)) (Nat.le_refl _))); (first | refine hK.out _ _ ?_ (fun hHeld2 => ?_) | (go_wp2_with fail; refine hK.out _ _ ?_ (fun hHeld2 => ?_))); (focus ((try dsimp only); (first | with_reducible assumption | ((repeat (first | with_reducible exact Below.refl _ _ | with_reducible assumption | with_reducible refine balloc ?_ _ | with_reducible refine bdrew ?_ | with_reducible refine below_drewN ?_ _ | with_reducible refine bset ?_ ?_ _ | with_reducible exact Nat.le_refl _ | with_reducible refine bsize ?_ | (dsimp only; refine Nat.le_trans ?_ (Nat.le_add_right _ _)) | with_reducible refine Nat.le_trans ?_ (Nat.le_add_right _ _) | (with_reducible refine bstep ?_ (by assumption)))); done)))); clear hK K; (try clear hHeld1); (try simp only [Act.put, List.setIfInBounds_toArray, List.set_cons_zero, List.set_cons_succ]))
    (refine wpAnyH_ready (rs := [9]) (by kernel_rfl) (by simp) ?_; refine AllReadyH.cons (o := { dst := some 14, op := Op.call { callee := Callee.builtin Builtin.append, args := #[Operand.tmp 9, Operand.tmp 13], argTypes := #[39, 39] }, type := 39, pos := "l9_puzzle.go:180", after := #[{ on := 4, ground := Ground.data }, { on := 8, ground := Ground.data }, { on := 4, ground := Ground.chain }], guard := none }) rfl (fun K hK => ?_) AllReadyH.nil; (refine step_append_own rfl (.tmp 9) (.tmp 13) 39 rfl (w.heap.size) 27 i0 (.agg #[.int .i64 0, .int .i64 0, .int .i64 0]) 3 24 Try.underlying39 hi hz0 hz1 hz2 rfl (by decide) (.slice aq4 (0 + n) cq4) (0 + n) ([] ++ cellsG fClue (l.take n)) ?c6 ?own (a.add ((n + 1) * 3)) (mm - (n + 1)) (cap - (n + 1)) (cellsG fClue (l.drop (n + 1))) ?c7 ?c8 ?c1 (cellsG_one _ _) ?c3 ?c4 ?c5 ?_; (case own => first | (repeat (first | with_reducible assumption | with_reducible refine own_alloc ?_ _ | with_reducible refine own_drew ?_ | with_reducible refine own_set ?_ ?_ _))); (case c1 => exact liesG_cells fClue_len (by decide) (liesG_drop (liesG_below HL.out (by (repeat (first | with_reducible exact Below.refl _ _ | with_reducible assumption | with_reducible refine balloc ?_ _ | with_reducible refine bdrew ?_ | with_reducible refine below_drewN ?_ _ | with_reducible refine bset ?_ ?_ _ | with_reducible exact Nat.le_refl _ | with_reducible refine bsize ?_ | (dsimp only; refine Nat.le_trans ?_ (Nat.le_add_right _ _)) | with_reducible refine Nat.le_trans ?_ (Nat.le_add_right _ _) | (with_reducible refine bstep ?_ (by assumption)))))) (n + 1) (by have := hm2.out; omega))); (case c3 => unfold maxLen; omega); (case c4 => omega); (case c5 => first | ((repeat (first | with_reducible exact Below.refl _ _ | with_reducible assumption | with_reducible refine balloc ?_ _ | with_reducible refine bdrew ?_ | with_reducible refine below_drewN ?_ _ | with_reducible refine bset ?_ ?_ _ | with_reducible exact Nat.le_refl _ | with_reducible refine bsize ?_ | (dsimp only; refine Nat.le_trans ?_ (Nat.le_add_right _ _)) | with_reducible refine Nat.le_trans ?_ (Nat.le_add_right _ _) | (with_reducible refine bstep ?_ (by assumption)))); done) | (simp; omega)); (case c6 => simp [Act.eval, Act.put]); (case c7 => simp [Act.eval, Act.put]); (case c8 => first | (rw [cellsG_len fClue_len, List.length_drop, hm2.out]; done) | (rw [cellsG_len fClue_len]; done) | (rw [cellsG_len fClue_len, List.length_drop]; done) | (rw [cellsG_len fClue_len, List.length_take, Nat.min_eq_left (by omega)]; done)); intro v9 w5 hown9 hgr9; (obtain ⟨aq9, cq9, rfl⟩ := owns_shape hown9); (have f5 : Below w.heap.size w w5 := grown_bel (base := w.heap.size) (by first | with_reducible assumption | ((repeat (first | with_reducible exact Below.refl _ _ | with_reducible assumption | with_reducible refine balloc ?_ _ | with_reducible refine bdrew ?_ | with_reducible refine below_drewN ?_ _ | with_reducible refine bset ?_ ?_ _ | with_reducible exact Nat.le_refl _ | with_reducible refine bsize ?_ | (dsimp only; refine Nat.le_trans ?_ (Nat.le_add_right _ _)) | with_reducible refine Nat.le_trans ?_ (Nat.le_add_right _ _) | (with_reducible refine bstep ?_ (by assumption)))); done)) hgr9 hown4 (Nat.le_refl _))); (first | refine hK.out _ _ ?_ (fun hHeld3 => ?_) | (go_wp2_with fail; refine hK.out _ _ ?_ (fun hHeld3 => ?_))); (focus ((try dsimp only); (first | with_reducible assumption | ((repeat (first | with_reducible exact Below.refl _ _ | with_reducible assumption | with_reducible refine balloc ?_ _ | with_reducible refine bdrew ?_ | with_reducible refine below_drewN ?_ _ | with_reducible refine bset ?_ ?_ _ | with_reducible exact Nat.le_refl _ | with_reducible refine bsize ?_ | (dsimp only; refine Nat.le_trans ?_ (Nat.le_add_right _ _)) | with_reducible refine Nat.le_trans ?_ (Nat.le_add_right _ _) | (with_reducible refine bstep ?_ (by assumption)))); done)))); clear hK K; (try clear hHeld2); (try simp only [Act.put, List.setIfInBounds_toArray, List.set_cons_zero, List.set_cons_succ]))
    (refine wpAnyH_take (i := 10) (oi := { dst := some 4, op := Op.assign (Operand.tmp 14), type := 39, pos := "l9_puzzle.go:180", after := #[{ on := 9, ground := Ground.data }, { on := 9, ground := Ground.chain }, { on := 0, ground := Ground.phase }, { on := 1, ground := Ground.phase }, { on := 2, ground := Ground.phase }, { on := 3, ground := Ground.phase }, { on := 4, ground := Ground.phase }, { on := 5, ground := Ground.phase }, { on := 6, ground := Ground.phase }, { on := 7, ground := Ground.phase }, { on := 8, ground := Ground.phase }, { on := 9, ground := Ground.phase }], guard := none }) (v := ?_) rfl (by kernel_rfl) (by kernel_rfl) (by kernel_rfl) (fun _ _ _ h => h) (Or.inl ⟨by rfl, ?_⟩) (by assumption) ?_; rotate_left; (focus (intro w hSw; (try dsimp only at hSw); go_simp; try with_reducible rfl)); (try simp only [Act.put, List.setIfInBounds_toArray, List.set_cons_zero, List.set_cons_succ]))
    refine wpAnyH_done (by kernel_rfl) ?_ _
    (try refine NoPanic.normal ?_)
    all_goals go_wp2
    all_goals go_ret
    all_goals exact ⟨_, rfl, by have h := hown9; rw [List.length_append, List.length_take, List.length_drop, hm2.out, Nat.min_eq_left (by omega), cellsG_append]; simpa using h, f5⟩
end Go.Proofs.Ytiafmojmanhdoaa

/- Puzzles: needless clues, of both sides. -/
namespace Go.Proofs.Ytiafmojmanhdoaa
open Go.ChangeShapes Go.WideShapes Go.ChangeAt Go.RowKit Go.Joins
set_option maxRecDepth 100000
set_option linter.unusedVariables false
set_option linter.unusedSimpArgs false

theorem row_bdC {w : World} {v : Value} {cs : List ClueV} (h : RowG 3 fClue w v cs) : ∀ p ∈ cs, ∀ y ∈ fClue p, -9223372036854775808 ≤ y ∧ y ≤ 9223372036854775807 := by
  rcases h with ⟨_, rfl⟩ | ⟨a, cap, _, hL⟩
  · simp
  · exact hL.hbd
set_option maxHeartbeats 6400000 in
theorem needless_spec (m : Int) (bm : -9223372036854775808 ≤ m ∧ m ≤ 9223372036854775807) (v : Value) (cs : List ClueV) (w : World) (h : RowG 3 fClue w v cs) :
    Calls Try.prog 40 #[.agg #[.int .i64 m, v]] w (AnsG 3 1 fInt (ndL m cs) (pzB m cs) w) := by
  obtain ⟨j0, hj0, hy0, hy1, hy2⟩ := info_parts infoInt
  have HG := Lib.hid (fun W (hB : Below w.heap.size w W) => good9_spec m bm v cs W (rowG_below h hB))
  have HA := Lib.hid (fun (hp : pzB m cs = true) W (hB : Below w.heap.size w W) => all_spec9 m (miB_yes (pzB_yes hp).1).1 (miB_yes (pzB_yes hp).1).2 v cs (pzB_yes hp).2.2 W (rowG_below h hB))
  have HBD := Lib.hid (row_bdC h)
  have HWO := Lib.hid (fun (k : Nat) (hk : k < cs.length) (h8 : cs.length ≤ 8) W (hB : Below w.heap.size w W) => (show Calls Try.prog 68 #[v, .int .i64 k] W (EndL 27 3 fClue (woL cs k) W) from by
    obtain ⟨a, cap, rfl, hL⟩ := rowG_some (rowG_below h hB) (by omega)
    exact without_spec a cap cs k hk (by omega) W hL))
  have HAK := Lib.hid (fun (hp : pzB m cs = true) (k : Nat) (hk : k < cs.length) W v' (hR : RowG 3 fClue W v' (woL cs k)) => all_spec9 m (miB_yes (pzB_yes hp).1).1 (miB_yes (pzB_yes hp).1).2 v' (woL cs k) (pzB_yes (woL_ok hp k hk)).2.2 W hR)
  obtain ⟨a0, c0, rfl, hl1, hl2⟩ := row_shape h
  clear h
  cases hp : pzB m cs
  · have e1 : ndL m cs = [] := by simp [ndL, hp]
    rw [hp] at HG
    rw [e1]
    clear e1 hp HA HWO HAK
    go_enter Try.func40, Try.ntmps40
    go_wp2_with fail
    refine (HG.out _ (by (repeat (first | with_reducible exact Below.refl _ _ | with_reducible assumption | with_reducible refine balloc ?_ _ | with_reducible refine bdrew ?_ | with_reducible refine below_drewN ?_ _ | with_reducible refine bset ?_ ?_ _ | with_reducible exact Nat.le_refl _ | with_reducible refine bsize ?_ | (dsimp only; refine Nat.le_trans ?_ (Nat.le_add_right _ _)) | with_reducible refine Nat.le_trans ?_ (Nat.le_add_right _ _) | (with_reducible refine bstep ?_ (by assumption)))))).mono ?_
    rintro e w1 ⟨rfl, hb1⟩
    go_wp2
    refine bodyPost_ret (v := .tuple #[.slice none 0 0, .bool false]) (by simp only [results, Try.results40]; go_simp) rfl ?_
    exact ⟨_, rfl, World.ownsRow_nil _ _ _ _, by (repeat (first | with_reducible exact Below.refl _ _ | with_reducible assumption | with_reducible refine balloc ?_ _ | with_reducible refine bdrew ?_ | with_reducible refine below_drewN ?_ _ | with_reducible refine bset ?_ ?_ _ | with_reducible exact Nat.le_refl _ | with_reducible refine bsize ?_ | (dsimp only; refine Nat.le_trans ?_ (Nat.le_add_right _ _)) | with_reducible refine Nat.le_trans ?_ (Nat.le_add_right _ _) | (with_reducible refine bstep ?_ (by assumption))))⟩
  · have h8 := (pzB_yes hp).2.1
    have HA2 := Lib.hid (HA.out hp)
    have HAK2 := Lib.hid (HAK.out hp)
    have hm10 := (miB_yes (pzB_yes hp).1).2
    rw [hp] at HG
    have e1 : ndL m cs = ndP m cs cs.length := by simp [ndL, hp]
    rw [e1]
    clear e1 hp HA HAK
    obtain ⟨n, hn⟩ : ∃ n, cs.length = n := ⟨_, rfl⟩
    have HN := Lib.hid hn
    rw [hn] at HA2 HG HWO HAK2 hl1 h8 ⊢
    clear hn
    go_enter Try.func40, Try.ntmps40
    go_wp2_with fail
    refine (HG.out _ (by (repeat (first | with_reducible exact Below.refl _ _ | with_reducible assumption | with_reducible refine balloc ?_ _ | with_reducible refine bdrew ?_ | with_reducible refine below_drewN ?_ _ | with_reducible refine bset ?_ ?_ _ | with_reducible exact Nat.le_refl _ | with_reducible refine bsize ?_ | (dsimp only; refine Nat.le_trans ?_ (Nat.le_add_right _ _)) | with_reducible refine Nat.le_trans ?_ (Nat.le_add_right _ _) | (with_reducible refine bstep ?_ (by assumption)))))).mono ?_
    rintro e w1 ⟨rfl, hb1⟩
    have hbx1 : Blk w.heap.size #[.int .i64 m, .slice a0 n c0] 41 w1 := (Blk.new w _ _).later hb1
    have hbw1 : Below w.heap.size w w1 := by (repeat (first | with_reducible exact Below.refl _ _ | with_reducible assumption | with_reducible refine balloc ?_ _ | with_reducible refine bdrew ?_ | with_reducible refine below_drewN ?_ _ | with_reducible refine bset ?_ ?_ _ | with_reducible exact Nat.le_refl _ | with_reducible refine bsize ?_ | (dsimp only; refine Nat.le_trans ?_ (Nat.le_add_right _ _)) | with_reducible refine Nat.le_trans ?_ (Nat.le_add_right _ _) | (with_reducible refine bstep ?_ (by assumption))))
    have q0 := hbx1.cell 0
    have q1 := hbx1.cell 1
    simp at q0 q1
    clear hb1
    go_wp2_with fail
    refine Calls.mono (HA2.out _ hbw1) ?_
    rintro e w2 ⟨v2, Z2, rfl, hr2, hm2, hb2⟩
    obtain ⟨va, vc, hv⟩ := owns_shape hr2.out
    obtain ⟨nn, hn2⟩ : ∃ n, Z2.length = n := ⟨_, rfl⟩
    rw [hn2] at hv
    subst hv
    have hlen := Lib.hid (show (solL m cs).length = nn by rw [← hm2.out, List.length_map, hn2])
    have hbx2 := hbx1.later hb2
    have hbw2 : Below w.heap.size w w2 := hbw1.trans (hb2.mono hbw1.size)
    clear hn2 hm2 hr2 hb2 hbx1 hbw1 q0 q1
    have q1 := hbx2.cell 1
    simp at q1
    go_wp2
    go_loopw [4, 19] (fun s x wr => ∃ (k : Nat) (n6 : Nat) (s6 : Value), k ≤ n ∧ n6 ≤ k ∧ x = .int .i64 k ∧ s6 = s ∧ Hid ((ndP m cs k).length = n6) ∧ wr.ownsRow w.heap.size 3 1 s6 n6 (cellsG fInt (ndP m cs k)) ∧ Blk w.heap.size #[.int .i64 m, .slice a0 n c0] 41 wr ∧ Below w.heap.size w wr) (fun _ x _ => n - (intOf x).toNat)
    case atStart => exact ⟨0, 0, _, Nat.zero_le _, Nat.zero_le _, rfl, rfl, Lib.hid rfl, World.ownsRow_nil _ _ _ _, hbx2, hbw2⟩
    case round =>
      obtain ⟨k, n6, s6, hk, hn6, rfl, rfl, hl6, hown6, hbx6, hbw6⟩ := hrel
      clear hbx2 hbw2 q1
      obtain ⟨s6a, s6c, rfl⟩ := owns_shape hown6
      have q0 := hbx6.cell 0
      have q1 := hbx6.cell 1
      simp at q0 q1
      by_cases hlt : k < n
      · have hlf := Lib.hid (ndP_succ m cs k)
        have HWk := Lib.hid (HWO.out k hlt h8)
        have HAk := Lib.hid (HAK2.out k hlt)
        have hBD := Lib.hid (fun p (hp : p ∈ woL cs k) => HBD.out p (woL_mem hp))
        have hat := Lib.hid (show ndAt m cs k = decide ((solL m (woL cs k)).length = nn) by rw [ndAt, hlen.out])
        generalize solL m (woL cs k) = L at *
        generalize woL cs k = WL at *
        go_upto_region 8 with fail
        have hlt6 := hbx6.lt
        have hS1 := Lib.hid (fun (V : World) (h : Below wr.heap.size wr V) => (⟨h, keepa h hlt6 q0, keepa h hlt6 q1⟩ : Below wr.heap.size wr V ∧ V.cell? ⟨w.heap.size, 0, none⟩ = some (.int .i64 m) ∧ V.cell? ⟨w.heap.size, 1, none⟩ = some (.slice a0 n c0)))
        clear q0 q1
        go_region_held3 (fun V => Below wr.heap.size wr V ∧ V.cell? ⟨w.heap.size, 0, none⟩ = some (.int .i64 m) ∧ V.cell? ⟨w.heap.size, 1, none⟩ = some (.slice a0 n c0)) ((refine hS1.out _ ?_; first | with_reducible assumption | ((repeat (first | with_reducible exact Below.refl _ _ | with_reducible assumption | with_reducible refine balloc ?_ _ | with_reducible refine bdrew ?_ | with_reducible refine below_drewN ?_ _ | with_reducible refine bset ?_ ?_ _ | with_reducible exact Nat.le_refl _ | with_reducible refine bsize ?_ | (dsimp only; refine Nat.le_trans ?_ (Nat.le_add_right _ _)) | with_reducible refine Nat.le_trans ?_ (Nat.le_add_right _ _) | (with_reducible refine bstep ?_ (by assumption)))); done))) (first | (go_at_call 68; refine Calls.mono (HWk.out _ (show Below w.heap.size w _ from bstep hbw6 (by first | with_reducible assumption | ((repeat (first | with_reducible exact Below.refl _ _ | with_reducible assumption | with_reducible refine balloc ?_ _ | with_reducible refine bdrew ?_ | with_reducible refine below_drewN ?_ _ | with_reducible refine bset ?_ ?_ _ | with_reducible exact Nat.le_refl _ | with_reducible refine bsize ?_ | (dsimp only; refine Nat.le_trans ?_ (Nat.le_add_right _ _)) | with_reducible refine Nat.le_trans ?_ (Nat.le_add_right _ _) | (with_reducible refine bstep ?_ (by assumption)))); done)))) ?_; rintro e w3 ⟨v3, rfl, hown3, hb3⟩; (have hrw3 := rowG_own fClue_len hown3 hBD.out); (obtain ⟨a3, c3, rfl⟩ := owns_shape hown3); (obtain ⟨n3, hn3⟩ : ∃ n, WL.length = n := ⟨_, rfl⟩); (rw [hn3] at hrw3 ⊢); clear hown3 hn3; (have f3 : Below wr.heap.size wr w3 := bstep (by first | with_reducible assumption | ((repeat (first | with_reducible exact Below.refl _ _ | with_reducible assumption | with_reducible refine balloc ?_ _ | with_reducible refine bdrew ?_ | with_reducible refine below_drewN ?_ _ | with_reducible refine bset ?_ ?_ _ | with_reducible exact Nat.le_refl _ | with_reducible refine bsize ?_ | (dsimp only; refine Nat.le_trans ?_ (Nat.le_add_right _ _)) | with_reducible refine Nat.le_trans ?_ (Nat.le_add_right _ _) | (with_reducible refine bstep ?_ (by assumption)))); done)) hb3); (have g3 := hS1.out _ f3); go_split_ands) | (go_at_call 58; refine Calls.mono (HAk.out _ _ (rowG_below hrw3 (by first | with_reducible assumption | ((repeat (first | with_reducible exact Below.refl _ _ | with_reducible assumption | with_reducible refine balloc ?_ _ | with_reducible refine bdrew ?_ | with_reducible refine below_drewN ?_ _ | with_reducible refine bset ?_ ?_ _ | with_reducible exact Nat.le_refl _ | with_reducible refine bsize ?_ | (dsimp only; refine Nat.le_trans ?_ (Nat.le_add_right _ _)) | with_reducible refine Nat.le_trans ?_ (Nat.le_add_right _ _) | (with_reducible refine bstep ?_ (by assumption)))); done)))) ?_; rintro e w4 ⟨v4, Z4, rfl, hr4, hm4, hb4⟩; (obtain ⟨a4, c4, hv4⟩ := owns_shape hr4.out); (obtain ⟨n4, hn4⟩ : ∃ n, Z4.length = n := ⟨_, rfl⟩); (rw [hn4] at hv4); subst hv4; (have hlen4 := Lib.hid (show L.length = n4 by rw [← hm4.out, List.length_map, hn4])); clear hr4 hm4 hn4; (have f4 : Below wr.heap.size wr w4 := bstep (by first | with_reducible assumption | ((repeat (first | with_reducible exact Below.refl _ _ | with_reducible assumption | with_reducible refine balloc ?_ _ | with_reducible refine bdrew ?_ | with_reducible refine below_drewN ?_ _ | with_reducible refine bset ?_ ?_ _ | with_reducible exact Nat.le_refl _ | with_reducible refine bsize ?_ | (dsimp only; refine Nat.le_trans ?_ (Nat.le_add_right _ _)) | with_reducible refine Nat.le_trans ?_ (Nat.le_add_right _ _) | (with_reducible refine bstep ?_ (by assumption)))); done)) hb4); (have g4 := hS1.out _ f4); go_split_ands))
        have hown4 := ownsRow_below hown6 f4
        have hbx4 := hbx6.later f4
        have hbw4 := bstep hbw6 f4
        have hz4 := hbw4.size
        clear hown6 hbx6 hbw6 hS1 f4 f3 hb3 hb4 hrw3
        by_cases hq : n4 = nn
        · have hnx := Lib.hid (show ndP m cs (k + 1) = ndP m cs k ++ [(k : Int)] by rw [hlf.out, if_pos (by rw [hat.out, hlen4.out, hq]; simp)])
          subst hq
          go_wp2_with (at_builtin; refine wpList_append_own _ rfl _ _ 24 rfl w.heap.size 3 j0 (.int .i64 0) 1 8 Try.underlying24 hj0 hy0 hy1 hy2 rfl (by decide) (.slice s6a n6 s6c) n6 (cellsG fInt (ndP m cs k)) rfl (hown4.alloc _) ⟨w4.heap.size, 0, none⟩ 1 1 [.int .i64 (k : Int)] ?c0 rfl ?c1 ?c2 ?c3 ?c4 ?c5 ?_)
          case c0 => simp [Act.eval, Act.put]
          case c1 => first | exact cell_one_new _ _ _ | (intro k u hk; match k, hk with | 0, hk => (simp at hk; subst hk; simp [go_sem]))
          case c2 => simp [Value.oneCell']
          case c3 => unfold maxLen; omega
          case c4 => omega
          case c5 => simp; omega
          intro s7 w7 hown7 hgr7 _
          have hbA : Below w4.heap.size w4 (w4.alloc (.cells #[.int .i64 (k : Int)] 3)) := balloc (Below.refl _ _) _
          have hoA := ownsRow_below hown4 hbA
          have hbx7 : Blk w.heap.size #[.int .i64 m, .slice a0 n c0] 41 w7 := (hgr7.block w.heap.size (hbx4.later hbA).lt (fun e => neT hoA (hbx4.later hbA) (by decide) e.symm)).trans (hbx4.later hbA)
          have hbw7 : Below w.heap.size w w7 := grown_bel (bstep hbw4 hbA) hgr7 hoA (Nat.le_refl _)
          have hown7' : w7.ownsRow w.heap.size 3 1 s7 (n6 + 1) (cellsG fInt (ndP m cs (k + 1))) := by rw [hnx.out, cellsG_append]; exact hown7
          obtain ⟨s7a, s7c, rfl⟩ := owns_shape hown7'
          clear hbA hoA hown7 hgr7 hown4 hbx4 hbw4
          go_wp2
          go_roundw
          case rel => exact ⟨k + 1, n6 + 1, _, by omega, by omega, by go_num, rfl, Lib.hid (by rw [hnx.out, List.length_append, hl6.out]; rfl), hown7', hbx7, hbw7⟩
          case measure => simp [intOf]; omega
        · have hnx := Lib.hid (show ndP m cs (k + 1) = ndP m cs k by rw [hlf.out, if_neg (by rw [hat.out, hlen4.out]; simpa using hq)]; simp)
          have hq1 : ¬ (n4 : Int) = (nn : Int) := by omega
          go_wp2
          go_roundw
          case rel => exact ⟨k + 1, n6, _, by omega, by omega, by go_num, rfl, by rw [hnx.out]; exact hl6, by rw [hnx.out]; exact hown4, hbx4, hbw4⟩
          case measure => simp [intOf]; omega
      · have hkn : k = n := by omega
        subst hkn
        have hown7 : wr.ownsRow w.heap.size 3 1 (.slice s6a n6 s6c) (ndP m cs k).length (cellsG fInt (ndP m cs k)) := by rw [hl6.out]; exact hown6
        go_wp2
        refine bodyPost_ret (v := .tuple #[.slice s6a n6 s6c, .bool true]) (by simp only [results, Try.results40]; go_simp) rfl ?_
        exact ⟨_, rfl, hown7, hbw6⟩
set_option maxHeartbeats 6400000 in
theorem needless_impl (m : Int) (bm : -9223372036854775808 ≤ m ∧ m ≤ 9223372036854775807) (v : Value) (cs : List ClueV) (w : World) (h : RowG 3 fClue w v cs) :
    Calls Try.prog 41 #[.agg #[.int .i64 m, v]] w (AnsG 3 1 fInt (ndL m cs) (pzB m cs) w) := by
  obtain ⟨j0, hj0, hy0, hy1, hy2⟩ := info_parts infoInt
  have HC := Lib.hid (fun W (hB : Below w.heap.size w W) => count_impl m bm v cs W (rowG_below h hB))
  have HBD := Lib.hid (row_bdC h)
  have HD := Lib.hid (fun (hp : pzB m cs = true) (k : Nat) (hk : k < cs.length) (h8 : cs.length ≤ 8) W (hB : Below w.heap.size w W) => (show Calls Try.prog 69 #[.agg #[.int .i64 m, v], .int .i64 k] W (AnsP m (woL cs k) true W) from by
    have hb : drB m cs k = true := by simp [drB, hp, inB]; omega
    have h1 := drop_impl m bm v cs k (by omega) W (rowG_below h hB)
    rw [drM_yes hb, drL_yes hb, hb] at h1
    exact h1))
  have HCK := Lib.hid (fun (hp : pzB m cs = true) (k : Nat) (hk : k < cs.length) W v' (hR : RowG 3 fClue W v' (woL cs k)) => (show Calls Try.prog 29 #[.agg #[.int .i64 m, v']] W (fun e w' => e = .returned (.tuple #[.int .i64 ((solL m (woL cs k)).length : Int), .bool true]) ∧ Below W.heap.size W w') from by
    have h1 := count_impl m bm v' (woL cs k) W hR
    have h2 := woL_ok hp k hk
    rw [h2, show soL m (woL cs k) = solL m (woL cs k) by simp [soL, h2]] at h1
    exact h1))
  obtain ⟨a0, c0, rfl, hl1, hl2⟩ := row_shape h
  clear h
  cases hp : pzB m cs
  · have e1 : ndL m cs = [] := by simp [ndL, hp]
    rw [hp] at HC
    rw [e1]
    clear e1 hp HD HCK
    generalize (soL m cs).length = N at *
    go_enter Try.func41, Try.ntmps41
    go_wp2_with fail
    refine (HC.out _ (by (repeat (first | with_reducible exact Below.refl _ _ | with_reducible assumption | with_reducible refine balloc ?_ _ | with_reducible refine bdrew ?_ | with_reducible refine below_drewN ?_ _ | with_reducible refine bset ?_ ?_ _ | with_reducible exact Nat.le_refl _ | with_reducible refine bsize ?_ | (dsimp only; refine Nat.le_trans ?_ (Nat.le_add_right _ _)) | with_reducible refine Nat.le_trans ?_ (Nat.le_add_right _ _) | (with_reducible refine bstep ?_ (by assumption)))))).mono ?_
    rintro e w1 ⟨rfl, hb1⟩
    go_wp2
    refine bodyPost_ret (v := .tuple #[.slice none 0 0, .bool false]) (by simp only [results, Try.results41]; go_simp) rfl ?_
    exact ⟨_, rfl, World.ownsRow_nil _ _ _ _, by (repeat (first | with_reducible exact Below.refl _ _ | with_reducible assumption | with_reducible refine balloc ?_ _ | with_reducible refine bdrew ?_ | with_reducible refine below_drewN ?_ _ | with_reducible refine bset ?_ ?_ _ | with_reducible exact Nat.le_refl _ | with_reducible refine bsize ?_ | (dsimp only; refine Nat.le_trans ?_ (Nat.le_add_right _ _)) | with_reducible refine Nat.le_trans ?_ (Nat.le_add_right _ _) | (with_reducible refine bstep ?_ (by assumption))))⟩
  · have h8 := (pzB_yes hp).2.1
    have HD2 := Lib.hid (HD.out hp)
    have HCK2 := Lib.hid (HCK.out hp)
    have e1 : ndL m cs = ndP m cs cs.length := by simp [ndL, hp]
    have e2 : soL m cs = solL m cs := by simp [soL, hp]
    rw [hp, e2] at HC
    rw [e1]
    clear e1 e2 hp HD HCK
    obtain ⟨n, hn⟩ : ∃ n, cs.length = n := ⟨_, rfl⟩
    obtain ⟨nn, hnn⟩ : ∃ n, (solL m cs).length = n := ⟨_, rfl⟩
    have hlen := Lib.hid hnn
    rw [hnn] at HC
    rw [hn] at HC HD2 HCK2 hl1 h8 ⊢
    clear hn hnn
    go_enter Try.func41, Try.ntmps41
    go_wp2_with fail
    refine (HC.out _ (by (repeat (first | with_reducible exact Below.refl _ _ | with_reducible assumption | with_reducible refine balloc ?_ _ | with_reducible refine bdrew ?_ | with_reducible refine below_drewN ?_ _ | with_reducible refine bset ?_ ?_ _ | with_reducible exact Nat.le_refl _ | with_reducible refine bsize ?_ | (dsimp only; refine Nat.le_trans ?_ (Nat.le_add_right _ _)) | with_reducible refine Nat.le_trans ?_ (Nat.le_add_right _ _) | (with_reducible refine bstep ?_ (by assumption)))))).mono ?_
    rintro e w2 ⟨rfl, hb2⟩
    have hbx2 : Blk w.heap.size #[.int .i64 m, .slice a0 n c0] 41 w2 := (Blk.new w _ _).later hb2
    have hbw2 : Below w.heap.size w w2 := by (repeat (first | with_reducible exact Below.refl _ _ | with_reducible assumption | with_reducible refine balloc ?_ _ | with_reducible refine bdrew ?_ | with_reducible refine below_drewN ?_ _ | with_reducible refine bset ?_ ?_ _ | with_reducible exact Nat.le_refl _ | with_reducible refine bsize ?_ | (dsimp only; refine Nat.le_trans ?_ (Nat.le_add_right _ _)) | with_reducible refine Nat.le_trans ?_ (Nat.le_add_right _ _) | (with_reducible refine bstep ?_ (by assumption))))
    clear hb2
    have q1 := hbx2.cell 1
    simp at q1
    go_wp2
    go_loopw [6, 22] (fun s x wr => ∃ (k : Nat) (n6 : Nat) (s6 : Value), k ≤ n ∧ n6 ≤ k ∧ x = .int .i64 k ∧ s6 = s ∧ Hid ((ndP m cs k).length = n6) ∧ wr.ownsRow w.heap.size 3 1 s6 n6 (cellsG fInt (ndP m cs k)) ∧ Blk w.heap.size #[.int .i64 m, .slice a0 n c0] 41 wr ∧ Below w.heap.size w wr) (fun _ x _ => n - (intOf x).toNat)
    case atStart => exact ⟨0, 0, _, Nat.zero_le _, Nat.zero_le _, rfl, rfl, Lib.hid rfl, World.ownsRow_nil _ _ _ _, hbx2, hbw2⟩
    case round =>
      obtain ⟨k, n6, s6, hk, hn6, rfl, rfl, hl6, hown6, hbx6, hbw6⟩ := hrel
      clear hbx2 hbw2 q1
      obtain ⟨s6a, s6c, rfl⟩ := owns_shape hown6
      have q0 := hbx6.cell 0
      have q1 := hbx6.cell 1
      simp at q0 q1
      by_cases hlt : k < n
      · have hlf := Lib.hid (ndP_succ m cs k)
        have HDk := Lib.hid (HD2.out k hlt h8)
        have HAk := Lib.hid (HCK2.out k hlt)
        have hBD := Lib.hid (fun p (hp : p ∈ woL cs k) => HBD.out p (woL_mem hp))
        have hat := Lib.hid (show ndAt m cs k = decide ((solL m (woL cs k)).length = nn) by rw [ndAt, hlen.out])
        generalize (solL m (woL cs k)).length = n4 at *
        generalize woL cs k = WL at *
        go_wp2_with fail
        refine Calls.mono (HDk.out _ hbw6) ?_
        rintro e w3 ⟨v3, rfl, hown3, hb3⟩
        have hrw3 := rowG_own fClue_len hown3 hBD.out
        obtain ⟨a3, c3, rfl⟩ := owns_shape hown3
        obtain ⟨n3, hn3⟩ : ∃ n, WL.length = n := ⟨_, rfl⟩
        rw [hn3] at hrw3 ⊢
        clear hown3 hn3
        have hown3' := ownsRow_below hown6 hb3
        have hbx3 := hbx6.later hb3
        have hbw3 := bstep hbw6 hb3
        clear q0 q1 hown6 hbx6 hbw6
        go_wp2_with fail
        refine (HAk.out _ _ (rowG_below hrw3 (by (repeat (first | with_reducible exact Below.refl _ _ | with_reducible assumption | with_reducible refine balloc ?_ _ | with_reducible refine bdrew ?_ | with_reducible refine below_drewN ?_ _ | with_reducible refine bset ?_ ?_ _ | with_reducible exact Nat.le_refl _ | with_reducible refine bsize ?_ | (dsimp only; refine Nat.le_trans ?_ (Nat.le_add_right _ _)) | with_reducible refine Nat.le_trans ?_ (Nat.le_add_right _ _) | (with_reducible refine bstep ?_ (by assumption))))))).mono ?_
        rintro e w4 ⟨rfl, hb4⟩
        have f4 : Below w3.heap.size w3 w4 := bstep (by (repeat (first | with_reducible exact Below.refl _ _ | with_reducible assumption | with_reducible refine balloc ?_ _ | with_reducible refine bdrew ?_ | with_reducible refine below_drewN ?_ _ | with_reducible refine bset ?_ ?_ _ | with_reducible exact Nat.le_refl _ | with_reducible refine bsize ?_ | (dsimp only; refine Nat.le_trans ?_ (Nat.le_add_right _ _)) | with_reducible refine Nat.le_trans ?_ (Nat.le_add_right _ _) | (with_reducible refine bstep ?_ (by assumption))))) hb4
        have hown4 := ownsRow_below hown3' f4
        have hbx4 := hbx3.later f4
        have hbw4 := bstep hbw3 f4
        have hz4 := hbw4.size
        clear hown3' hbx3 hbw3 f4 hb3 hb4 hrw3
        by_cases hq : n4 = nn
        · have hnx := Lib.hid (show ndP m cs (k + 1) = ndP m cs k ++ [(k : Int)] by rw [hlf.out, if_pos (by rw [hat.out, hq]; simp)])
          subst hq
          go_wp2_with (at_builtin; refine wpList_append_own _ rfl _ _ 24 rfl w.heap.size 3 j0 (.int .i64 0) 1 8 Try.underlying24 hj0 hy0 hy1 hy2 rfl (by decide) (.slice s6a n6 s6c) n6 (cellsG fInt (ndP m cs k)) rfl (hown4.alloc _) ⟨w4.heap.size, 0, none⟩ 1 1 [.int .i64 (k : Int)] ?c0 rfl ?c1 ?c2 ?c3 ?c4 ?c5 ?_)
          case c0 => simp [Act.eval, Act.put]
          case c1 => first | exact cell_one_new _ _ _ | (intro k u hk; match k, hk with | 0, hk => (simp at hk; subst hk; simp [go_sem]))
          case c2 => simp [Value.oneCell']
          case c3 => unfold maxLen; omega
          case c4 => omega
          case c5 => simp; omega
          intro s7 w7 hown7 hgr7 _
          have hbA : Below w4.heap.size w4 (w4.alloc (.cells #[.int .i64 (k : Int)] 3)) := balloc (Below.refl _ _) _
          have hoA := ownsRow_below hown4 hbA
          have hbx7 : Blk w.heap.size #[.int .i64 m, .slice a0 n c0] 41 w7 := (hgr7.block w.heap.size (hbx4.later hbA).lt (fun e => neT hoA (hbx4.later hbA) (by decide) e.symm)).trans (hbx4.later hbA)
          have hbw7 : Below w.heap.size w w7 := grown_bel (bstep hbw4 hbA) hgr7 hoA (Nat.le_refl _)
          have hown7' : w7.ownsRow w.heap.size 3 1 s7 (n6 + 1) (cellsG fInt (ndP m cs (k + 1))) := by rw [hnx.out, cellsG_append]; exact hown7
          obtain ⟨s7a, s7c, rfl⟩ := owns_shape hown7'
          clear hbA hoA hown7 hgr7 hown4 hbx4 hbw4
          go_wp2
          go_roundw
          case rel => exact ⟨k + 1, n6 + 1, _, by omega, by omega, by go_num, rfl, Lib.hid (by rw [hnx.out, List.length_append, hl6.out]; rfl), hown7', hbx7, hbw7⟩
          case measure => simp [intOf]; omega
        · have hnx := Lib.hid (show ndP m cs (k + 1) = ndP m cs k by rw [hlf.out, if_neg (by rw [hat.out]; simpa using hq)]; simp)
          have hq1 : ¬ (n4 : Int) = (nn : Int) := by omega
          go_wp2
          go_roundw
          case rel => exact ⟨k + 1, n6, _, by omega, by omega, by go_num, rfl, by rw [hnx.out]; exact hl6, by rw [hnx.out]; exact hown4, hbx4, hbw4⟩
          case measure => simp [intOf]; omega
      · have hkn : k = n := by omega
        subst hkn
        have hown7 : wr.ownsRow w.heap.size 3 1 (.slice s6a n6 s6c) (ndP m cs k).length (cellsG fInt (ndP m cs k)) := by rw [hl6.out]; exact hown6
        go_wp2
        refine bodyPost_ret (v := .tuple #[.slice s6a n6 s6c, .bool true]) (by simp only [results, Try.results41]; go_simp) rfl ?_
        exact ⟨_, rfl, hown7, hbw6⟩
theorem nd_len (m : Int) (l : List ClueV) (hn : l.length ≤ 1048576) : (ndL m l).length ≤ 1048576 := by
  unfold ndL
  split
  · exact Nat.le_trans (ndP_len m l l.length) hn
  · simp
end Go.Proofs.Ytiafmojmanhdoaa
