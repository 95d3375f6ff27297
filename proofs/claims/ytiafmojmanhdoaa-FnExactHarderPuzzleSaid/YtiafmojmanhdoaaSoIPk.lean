/- Puzzles made harder, of the program. -/
import Derived.Test.YtiafmojmanhdoaaSoHPk
import Derived.Test.YtiafmojmanhdoaaPkS9c
namespace Go.Proofs.Ytiafmojmanhdoaa
open Go.ChangeShapes Go.WideShapes Go.ChangeAt Go.RowKit Go.Joins
set_option maxRecDepth 100000
set_option linter.unusedVariables false
set_option linter.unusedSimpArgs false

theorem step_append_zero {P : Program} {ops : Array Oper} {o : Oper} {act : Act} {w : World} {K : Act → World → Prop} {Q : Exit → Act → World → Prop} {E : Prop}
    (hgd : o.guard = none) (s x : Operand) (t : TypeId)
    (ho : o.op = .call { callee := .builtin .append, args := #[s, x], argTypes := #[t, t] })
    (e : TypeId) (i : TypeInfo) (ht : P.underlying t = some (.slice e)) (hi : P.info? e = some i)
    (so : Option Addr) (n cap : Nat) (hs : act.eval s = .slice so n cap) (hnc : n ≤ cap)
    (xo : Option Addr) (mm c : Nat) (hm0 : mm = 0) (hx : act.eval x = .slice xo mm c)
    (hK : K (act.put o.dst (.slice so n cap)) w) :
    if Region.wanted o (yielded ops act.tmps) = true then Oper.wp P o act w K Q else E := by
  have hw : Region.wanted o (yielded ops act.tmps) = true := by simp [Region.wanted, hgd]
  rw [if_pos hw]
  subst hm0
  have hrun : (Builtin.append_ #[t, t] o.type #[.slice so n cap, .slice xo 0 c]).run P w = .ok (.slice so n cap) w := by
    cases so <;> cases xo <;> simp [Builtin.append_, run_underlying ht, sizeOf, typeInfo, hi, Builtin.lenOf, Builtin.firstCells, hnc, storeCells, loadCells, loadCellsFrom]
  unfold Oper.wp
  simp [execOp, ho, resolve, invoke, builtin, hs, hx, hrun, Result.andThen]
  exact hK
theorem hdB_is (m : Int) (cs : List ClueV) : hdB m cs = decide ((soL m cs).length = 1) := by
  unfold hdB soL
  cases hp : pzB m cs <;> simp
theorem row_full {w : World} {base nk : Nat} {ka : Option Addr} {kc : Nat} {kept : List ClueV} (h : w.ownsRow base 27 3 (.slice ka nk kc) nk (cellsG fClue kept)) (hl : kept.length = nk) (hb : ∀ p ∈ kept, ∀ y ∈ fClue p, -9223372036854775808 ≤ y ∧ y ≤ 9223372036854775807) : RowG 3 fClue w (.slice ka nk nk) kept := by
  have hr : RowG 3 fClue w (.slice ka nk kc) kept := rowG_own fClue_len (by rw [hl]; exact h) hb
  rcases hr with ⟨hv, hk⟩ | ⟨a, cap, hv, hL⟩
  · injection hv with e1 e2 e3
    subst e1 e2
    exact Or.inl ⟨rfl, hk⟩
  · injection hv with e1 e2 e3
    subst e1 e3
    refine Or.inr ⟨a, nk, by rw [hl], ⟨by omega, by have := hL.hcap; have := hL.hlc; omega, hL.hcell, hL.hbd⟩⟩
theorem row_rest {w : World} {a : Addr} {n c0 k : Nat} {cs : List ClueV} (h : LiesG 3 fClue w a c0 cs) (hn : cs.length = n) (hk : k + 1 ≤ n) : ∀ j u, (cellsG fClue (cs.drop (k + 1)))[j]? = some u → w.cell? ((a.add ((k + 1) * 3)).add j) = some u :=
  liesG_cells fClue_len (by decide) (liesG_drop h (k + 1) (by omega))
set_option maxHeartbeats 6400000 in
theorem harder_impl (m : Int) (bm : -9223372036854775808 ≤ m ∧ m ≤ 9223372036854775807) (v : Value) (cs : List ClueV) (w : World) (h : RowG 3 fClue w v cs) :
    Calls Try.prog 45 #[.agg #[.int .i64 m, v]] w (AnsP (hdM m cs) (hdL m cs) (hdB m cs) w) := by
  obtain ⟨i0, hi, hz0, hz1, hz2⟩ := info_parts infoClue
  have HBD := Lib.hid (row_bdC h)
  have HS := Lib.hid (fun W v' cl (hR : RowG 3 fClue W v' cl) => isSolved_impl m bm v' cl W hR)
  have HR := Lib.hid (fun W (hB : Below w.heap.size w W) => rowG_below h hB)
  have hcc := clues_of h
  obtain ⟨a0, c0, rfl, hl1, hl2, hC⟩ := hcc
  have HC := Lib.hid hC
  have HX := Lib.hid h
  clear h hC
  have hsb := hdB_is m cs
  cases hb : hdB m cs
  · have e2 : hdL m cs = [] := by simp [hdL, hb]
    have e3 : hdM m cs = 0 := by simp [hdM, hb]
    have HF := Lib.hid (show decide ((soL m cs).length = 1) = false by rw [← hsb, hb])
    rw [e2, e3]
    clear e2 e3 hb hsb HC HX
    go_enter Try.func45, Try.ntmps45
    go_wp2_with fail
    refine (HS.out _ _ cs (HR.out _ (by (repeat (first | with_reducible exact Below.refl _ _ | with_reducible assumption | with_reducible refine balloc ?_ _ | with_reducible refine bdrew ?_ | with_reducible refine below_drewN ?_ _ | with_reducible refine bset ?_ ?_ _ | with_reducible exact Nat.le_refl _ | with_reducible refine bsize ?_ | (dsimp only; refine Nat.le_trans ?_ (Nat.le_add_right _ _)) | with_reducible refine Nat.le_trans ?_ (Nat.le_add_right _ _) | (with_reducible refine bstep ?_ (by assumption))))))).mono ?_
    rintro e w1 ⟨rfl, hb1⟩
    rw [HF.out]
    have hbx1 : Blk (w.heap.size + 1) #[.int .i64 0, .slice none 0 0] 41 w1 := Blk.later (by have h := Blk.new (w.alloc (.cells #[.int .i64 m, .slice a0 cs.length c0] 41)) #[.int .i64 0, .slice none 0 0] 41; rw [World.size_alloc] at h; exact h) hb1
    have r0 := hbx1.cell 0
    have r1 := hbx1.cell 1
    have z0 := hbx1.frozen 0
    have z1 := hbx1.frozen 1
    simp at r0 r1
    generalize pzB m cs = B at *
    go_wp2
    refine bodyPost_ret (v := .tuple #[.agg #[.int .i64 0, .slice none 0 0], .bool false]) (by simp only [results, Try.results45]; go_simp) rfl ?_
    exact ⟨_, rfl, World.ownsRow_nil _ _ _ _, by (repeat (first | with_reducible exact Below.refl _ _ | with_reducible assumption | with_reducible refine balloc ?_ _ | with_reducible refine bdrew ?_ | with_reducible refine below_drewN ?_ _ | with_reducible refine bset ?_ ?_ _ | with_reducible exact Nat.le_refl _ | with_reducible refine bsize ?_ | (dsimp only; refine Nat.le_trans ?_ (Nat.le_add_right _ _)) | with_reducible refine Nat.le_trans ?_ (Nat.le_add_right _ _) | (with_reducible refine bstep ?_ (by assumption))))⟩
  · have e2 : hdL m cs = hdF m [] cs := by simp [hdL, hb]
    have e3 : hdM m cs = m := by simp [hdM, hb]
    have hp : pzB m cs = true := by
      unfold hdB at hb
      exact (Bool.and_eq_true _ _ ▸ hb).1
    have h8 := (pzB_yes hp).2.1
    have HT := Lib.hid (show decide ((soL m cs).length = 1) = true by rw [← hsb, hb])
    have HSK := Lib.hid (fun W v' cl (hcl : ∀ p ∈ cl, p ∈ cs) (hl8 : cl.length ≤ 8) (hR : RowG 3 fClue W v' cl) => (show Calls Try.prog 39 #[.agg #[.int .i64 m, v']] W (fun e w' => e = .returned (.tuple #[.bool (decide ((solL m cl).length = 1)), .bool true]) ∧ Below W.heap.size W w') from by
      have h1 := isSolved_impl m bm v' cl W hR
      have h2 : pzB m cl = true := pzB_all (pzB_yes hp).1 hl8 (fun j p _ hp' => (pzB_yes hp).2.2 p (hcl p (List.mem_of_getElem? hp')))
      rw [h2, show soL m cl = solL m cl by simp [soL, h2]] at h1
      exact h1))
    have HP := Lib.hid hp
    rw [e2, e3]
    clear e2 e3 hb hsb hp
    obtain ⟨R, hR⟩ : ∃ R, Hid (hdF m [] cs = R) := ⟨_, Lib.hid rfl⟩
    rw [hR.out]
    obtain ⟨n, hn⟩ : ∃ n, cs.length = n := ⟨_, rfl⟩
    have HN := Lib.hid hn
    rw [hn] at h8 HR HX hl1 ⊢
    clear hn
    go_enter Try.func45, Try.ntmps45
    go_wp2_with fail
    refine (HS.out _ _ cs (HR.out _ (by (repeat (first | with_reducible exact Below.refl _ _ | with_reducible assumption | with_reducible refine balloc ?_ _ | with_reducible refine bdrew ?_ | with_reducible refine below_drewN ?_ _ | with_reducible refine bset ?_ ?_ _ | with_reducible exact Nat.le_refl _ | with_reducible refine bsize ?_ | (dsimp only; refine Nat.le_trans ?_ (Nat.le_add_right _ _)) | with_reducible refine Nat.le_trans ?_ (Nat.le_add_right _ _) | (with_reducible refine bstep ?_ (by assumption))))))).mono ?_
    rintro e w1 ⟨rfl, hb1⟩
    rw [HT.out, HP.out]
    have hby1 : Blk w.heap.size #[.int .i64 m, .slice a0 n c0] 41 w1 := ((Blk.new w _ _).alloc _).later hb1
    have hbx1 : Blk (w.heap.size + 1) #[.int .i64 0, .slice none 0 0] 41 w1 := Blk.later (by have h := Blk.new (w.alloc (.cells #[.int .i64 m, .slice a0 n c0] 41)) #[.int .i64 0, .slice none 0 0] 41; rw [World.size_alloc] at h; exact h) hb1
    have hbw1 : Below w.heap.size w w1 := by (repeat (first | with_reducible exact Below.refl _ _ | with_reducible assumption | with_reducible refine balloc ?_ _ | with_reducible refine bdrew ?_ | with_reducible refine below_drewN ?_ _ | with_reducible refine bset ?_ ?_ _ | with_reducible exact Nat.le_refl _ | with_reducible refine bsize ?_ | (dsimp only; refine Nat.le_trans ?_ (Nat.le_add_right _ _)) | with_reducible refine Nat.le_trans ?_ (Nat.le_add_right _ _) | (with_reducible refine bstep ?_ (by assumption))))
    have q1 := hby1.cell 1
    simp at q1
    clear hb1
    go_wp2
    go_loopw [6, 23] (fun l i wr => ∃ (k nk : Nat) (v6 : Value) (kept : List ClueV), v6 = l ∧ i = .int .i64 k ∧ k ≤ n ∧ nk ≤ k ∧ Hid (kept.length = nk) ∧ Hid (∀ p ∈ kept, p ∈ cs) ∧ Hid (hdF m kept (cs.drop k) = R) ∧ wr.ownsRow w.heap.size 27 3 v6 nk (cellsG fClue kept) ∧ Blk w.heap.size #[.int .i64 m, .slice a0 n c0] 41 wr ∧ Blk (w.heap.size + 1) #[.int .i64 0, .slice none 0 0] 41 wr ∧ Below w.heap.size w wr) (fun _ i _ => n - (intOf i).toNat)
    case atStart => exact ⟨0, 0, _, [], rfl, rfl, Nat.zero_le _, Nat.le_refl _, Lib.hid rfl, Lib.hid (by simp), hR, World.ownsRow_nil _ _ _ _, hby1, hbx1, hbw1⟩
    case round =>
      obtain ⟨k, nk, v6, kept, rfl, rfl, hk, hnk, hLl, hLs, hLR, hown6, hby6, hbx6, hbw6⟩ := hrel
      clear hbw1 hby1 hbx1 q1
      obtain ⟨ka, kc, rfl⟩ := owns_shape hown6
      by_cases hlt : k < n
      · obtain ⟨p, hp⟩ : ∃ p, cs[k]? = some p := ⟨_, List.getElem?_eq_getElem (by rw [HN.out]; exact hlt)⟩
        have hHp := Lib.hid hp
        obtain ⟨a, rfl, e0, e1, e2⟩ := (HC.out.later hbw6) k p hp
        have hdrop := Lib.hid (show cs.drop k = p :: cs.drop (k + 1) by
          rw [List.drop_eq_getElem_cons (by rw [HN.out]; exact hlt)]
          rw [List.getElem?_eq_getElem (by rw [HN.out]; exact hlt)] at hp
          injection hp with hp
          rw [hp])
        clear hp
        go_upto_region 8 with fail
        refine (fun (h : ∀ V, V = _ → Code.wp _ _ _ _ V) => h _ rfl) ?_
        intro w8 hV8
        have hb8 : Below wr.heap.size wr w8 := by rw [hV8]; (repeat (first | with_reducible exact Below.refl _ _ | with_reducible assumption | with_reducible refine balloc ?_ _ | with_reducible refine bdrew ?_ | with_reducible refine below_drewN ?_ _ | with_reducible refine bset ?_ ?_ _ | with_reducible exact Nat.le_refl _ | with_reducible refine bsize ?_ | (dsimp only; refine Nat.le_trans ?_ (Nat.le_add_right _ _)) | with_reducible refine Nat.le_trans ?_ (Nat.le_add_right _ _) | (with_reducible refine bstep ?_ (by assumption))))
        have hbc8 : Blk wr.heap.size #[.int .i64 p.k, .int .i64 p.a, .int .i64 p.b] 27 w8 := by rw [hV8]; first | exact Blk.new wr _ _ | (unfold Blk; simp [go_sem, World.setCell])
        clear hV8 e0 e1 e2
        have hby8 := hby6.later hb8
        have hbx8 := hbx6.later hb8
        have hown8 := ownsRow_below hown6 hb8
        have hbw8 := bstep hbw6 hb8
        have hko := own_addr hown6
        have hkn := hko.2.1
        have hkm : kc ≤ 9223372036854775807 := by have := hko.2.2.1; unfold maxLen at this; omega
        have hmem := Lib.hid (show ∀ p' ∈ kept ++ cs.drop (k + 1), p' ∈ cs from fun p' hp' => by
          rcases List.mem_append.1 hp' with h9 | h9
          · exact hLs.out p' h9
          · exact List.mem_of_mem_drop h9)
        have hlen8 := Lib.hid (show (kept ++ cs.drop (k + 1)).length ≤ 8 by rw [List.length_append, List.length_drop, hLl.out, HN.out]; omega)
        have hL8 : LiesG 3 fClue w8 a c0 cs := by
          obtain ⟨a', cap', hva, hL⟩ := rowG_some (rowG_below HX.out hbw8) (by rw [HN.out]; omega)
          injection hva with x1 x2 x3
          injection x1 with x1
          subst x1 x3
          exact hL
        clear hko hown6 hby6 hbx6 hbw6 hb8
        have wq1 : IntKind.i64.wrap ((k : Int) + 1) = (k : Int) + 1 := IntWalk.i64_in _ (by omega)
        have wq2 : (0 : Int) ≤ (k : Int) + 1 := by omega
        have wq4 : ((k : Int) + 1).toNat = k + 1 := by omega
        have wq7 : (nk : Int) ≤ (kc : Int) := by omega
        have g4 : k + 1 ≤ n := by omega
        have g5 : k + 1 ≤ c0 := by omega
        have wq3 : (k : Int) + 1 ≤ ((n : Nat) : Int) := by omega
        obtain ⟨Ad, hAd⟩ : ∃ Ad : Addr, Hid ((if c0 = k + 1 then some a else some (a.add ((k + 1) * 3))) = some Ad) := by by_cases h : c0 = k + 1 <;> simp only [h, if_true, if_false] <;> exact ⟨_, rfl⟩
        by_cases g3 : n ≤ k + 1
        case' pos =>
          go_upto_region 8 with fail
          refine wp_region_noPanic ?_
          refine wp_region_T 12 (fun V => V.cell? ⟨w.heap.size, 1, none⟩ = some (.slice (some a) n c0)) (by kernel_rfl) (by simpa using hby8.cell 1) (fun hHeld => ?_)
          (refine wpAnyT_take (i := 0) (v := ?_) (by rfl) (by kernel_rfl) (by kernel_rfl) (by kernel_rfl) (by kernel_rfl) (fun _ _ _ h => h) (Or.inl ⟨by rfl, ?_⟩) (by assumption) ?_; rotate_left; (focus (intro w hSw; (try dsimp only at hSw); go_simp; (try with_reducible rfl))); (try simp only [Act.put, List.setIfInBounds_toArray, List.set_cons_zero, List.set_cons_succ]))
          (refine wpAnyT_take (i := 1) (v := ?_) (by rfl) (by kernel_rfl) (by kernel_rfl) (by kernel_rfl) (by kernel_rfl) (fun _ _ _ h => h) (Or.inl ⟨by rfl, ?_⟩) (by assumption) ?_; rotate_left; (focus (intro w hSw; (try dsimp only at hSw); go_simp; (try with_reducible rfl))); (try simp only [Act.put, List.setIfInBounds_toArray, List.set_cons_zero, List.set_cons_succ]))
          (refine wpAnyT_take (i := 2) (v := ?_) (by rfl) (by kernel_rfl) (by kernel_rfl) (by kernel_rfl) (by kernel_rfl) (fun _ _ _ h => h) (Or.inl ⟨by rfl, ?_⟩) (by assumption) ?_; rotate_left; (focus (intro w hSw; (try dsimp only at hSw); go_simp; (try with_reducible rfl))); (try simp only [Act.put, List.setIfInBounds_toArray, List.set_cons_zero, List.set_cons_succ]))
          (refine wpAnyT_take (i := 3) (v := ?_) (by rfl) (by kernel_rfl) (by kernel_rfl) (by kernel_rfl) (by kernel_rfl) (fun _ _ _ h => h) (Or.inl ⟨by rfl, ?_⟩) (by assumption) ?_; rotate_left; (focus (intro w hSw; (try dsimp only at hSw); go_simp; (try with_reducible rfl))); (try simp only [Act.put, List.setIfInBounds_toArray, List.set_cons_zero, List.set_cons_succ]))
          (refine wpAnyT_take (i := 4) (v := ?_) (by rfl) (by kernel_rfl) (by kernel_rfl) (by kernel_rfl) (by kernel_rfl) (fun _ _ _ h => h) (Or.inl ⟨by rfl, ?_⟩) (by assumption) ?_; rotate_left; (focus (intro w hSw; (try dsimp only at hSw); go_simp; (try with_reducible rfl))); (try simp only [Act.put, List.setIfInBounds_toArray, List.set_cons_zero, List.set_cons_succ]))
          (refine wpAnyT_take (i := 5) (v := ?_) (by rfl) (by kernel_rfl) (by kernel_rfl) (by kernel_rfl) (by kernel_rfl) (fun _ _ _ h => h) (Or.inl ⟨by rfl, ?_⟩) (by assumption) ?_; rotate_left; (focus (intro w hSw; (try dsimp only at hSw); go_simp; (try with_reducible rfl))); (try simp only [Act.put, List.setIfInBounds_toArray, List.set_cons_zero, List.set_cons_succ]))
          (refine wpAnyT_take (i := 6) (v := ?_) (by rfl) (by kernel_rfl) (by kernel_rfl) (by kernel_rfl) (by kernel_rfl) (fun _ _ _ h => h) (Or.inl ⟨by rfl, ?_⟩) (by assumption) ?_; rotate_left; (focus (intro w hSw; (try dsimp only at hSw); go_simp; (try with_reducible rfl))); (try simp only [Act.put, List.setIfInBounds_toArray, List.set_cons_zero, List.set_cons_succ]))
          (refine wpAnyT_take (i := 7) (v := ?_) (by rfl) (by kernel_rfl) (by kernel_rfl) (by kernel_rfl) (by kernel_rfl) (fun _ _ _ h => h) (Or.inl ⟨by rfl, ?_⟩) (by assumption) ?_; rotate_left; (focus (intro w hSw; (try dsimp only at hSw); go_simp; (try with_reducible rfl))); (try simp only [Act.put, List.setIfInBounds_toArray, List.set_cons_zero, List.set_cons_succ]))
          (refine wpAnyT_take (i := 8) (v := ?_) (by rfl) (by kernel_rfl) (by kernel_rfl) (by kernel_rfl) (by kernel_rfl) (fun _ _ _ h => h) (Or.inl ⟨by rfl, ?_⟩) (by assumption) ?_; rotate_left; (focus (intro w hSw; (try dsimp only at hSw); go_simp; (try with_reducible rfl))); (try simp only [Act.put, List.setIfInBounds_toArray, List.set_cons_zero, List.set_cons_succ]))
          (refine wpAnyT_take (i := 9) (v := ?_) (by rfl) (by kernel_rfl) (by kernel_rfl) (by kernel_rfl) (by kernel_rfl) (fun _ _ _ h => h) (Or.inl ⟨by rfl, ?_⟩) (by assumption) ?_; rotate_left; (focus (intro w hSw; (try dsimp only at hSw); go_simp; (try with_reducible rfl))); (try simp only [Act.put, List.setIfInBounds_toArray, List.set_cons_zero, List.set_cons_succ]))
          refine wpAnyT_take (i := 10) (v := .slice (some Ad) (n - (k + 1)) (c0 - (k + 1))) (by rfl) (by kernel_rfl) (by kernel_rfl) (by kernel_rfl) (by kernel_rfl) (fun _ _ _ h => h) (Or.inl ⟨by rfl, ?_⟩) (by assumption) ?_
          · intro w hSw
            go_simp
            first | (simp [hAd.out]; done) | (rw [hAd.out]; done) | (simp only [hAd.out]; done)
          (try simp only [Act.put, List.setIfInBounds_toArray, List.set_cons_zero, List.set_cons_succ])
          refine wpAnyT_one (i := 11) (by kernel_rfl) (by rfl) (fun K hK => ?_)
          refine step_append_zero rfl (.tmp 33) (.tmp 38) 39 rfl 27 i0 Try.underlying39 hi ka nk nk ?c0 (Nat.le_refl _) (some Ad) (n - (k + 1)) (c0 - (k + 1)) (by omega) ?c1 ?_
          case c0 => simp [Act.eval, Act.put]
          case c1 => simp [Act.eval, Act.put]
          refine hK.out _ _ (Or.inr (by simpa using hby8.cell 1)) (fun hHeld => ?_)
          clear hK
          clear K
          (try simp only [Act.put, List.setIfInBounds_toArray, List.set_cons_zero, List.set_cons_succ])
          refine wpAnyT_one (i := 12) (by kernel_rfl) (by rfl) (fun K hK => ?_)
          go_simp
          refine hK.out _ _ (Or.inl rfl) (fun _ => ?_)
          refine wpAnyT_done (by kernel_rfl) ?_ _
          refine NoPanic.normal ?_
          clear hK
          clear K
          go_upto_region 9 with fail
          refine (fun (h : ∀ V, V = _ → Code.wp _ _ _ _ V) => h _ rfl) ?_
          intro w9 hV9
          have hb9 : Below w8.heap.size w8 w9 := by rw [hV9]; (repeat (first | with_reducible exact Below.refl _ _ | with_reducible assumption | with_reducible refine balloc ?_ _ | with_reducible refine bdrew ?_ | with_reducible refine below_drewN ?_ _ | with_reducible refine bset ?_ ?_ _ | with_reducible exact Nat.le_refl _ | with_reducible refine bsize ?_ | (dsimp only; refine Nat.le_trans ?_ (Nat.le_add_right _ _)) | with_reducible refine Nat.le_trans ?_ (Nat.le_add_right _ _) | (with_reducible refine bstep ?_ (by assumption))))
          clear hV9
          have hrw9 : RowG 3 fClue w9 (.slice ka nk nk) (kept ++ cs.drop (k + 1)) := by
            rw [List.drop_of_length_le (by rw [HN.out]; omega), List.append_nil]
            exact row_full (ownsRow_below hown8 hb9) hLl.out (fun p' hp' => HBD.out p' (hLs.out p' hp'))
        case' neg =>
          have hA2 : Ad = a.add ((k + 1) * 3) := by
            have h := hAd.out
            rw [if_neg (by omega)] at h
            injection h with h
            exact h.symm
          have HA2 := Lib.hid hA2
          clear hA2
          go_upto_region 8 with fail
          refine wp_region_noPanic ?_
          refine wp_region_T 12 (fun V => V.cell? ⟨w.heap.size, 1, none⟩ = some (.slice (some a) n c0)) (by kernel_rfl) (by simpa using hby8.cell 1) (fun hHeld => ?_)
          (refine wpAnyT_take (i := 0) (v := ?_) (by rfl) (by kernel_rfl) (by kernel_rfl) (by kernel_rfl) (by kernel_rfl) (fun _ _ _ h => h) (Or.inl ⟨by rfl, ?_⟩) (by assumption) ?_; rotate_left; (focus (intro w hSw; (try dsimp only at hSw); go_simp; (try with_reducible rfl))); (try simp only [Act.put, List.setIfInBounds_toArray, List.set_cons_zero, List.set_cons_succ]))
          (refine wpAnyT_take (i := 1) (v := ?_) (by rfl) (by kernel_rfl) (by kernel_rfl) (by kernel_rfl) (by kernel_rfl) (fun _ _ _ h => h) (Or.inl ⟨by rfl, ?_⟩) (by assumption) ?_; rotate_left; (focus (intro w hSw; (try dsimp only at hSw); go_simp; (try with_reducible rfl))); (try simp only [Act.put, List.setIfInBounds_toArray, List.set_cons_zero, List.set_cons_succ]))
          (refine wpAnyT_take (i := 2) (v := ?_) (by rfl) (by kernel_rfl) (by kernel_rfl) (by kernel_rfl) (by kernel_rfl) (fun _ _ _ h => h) (Or.inl ⟨by rfl, ?_⟩) (by assumption) ?_; rotate_left; (focus (intro w hSw; (try dsimp only at hSw); go_simp; (try with_reducible rfl))); (try simp only [Act.put, List.setIfInBounds_toArray, List.set_cons_zero, List.set_cons_succ]))
          (refine wpAnyT_take (i := 3) (v := ?_) (by rfl) (by kernel_rfl) (by kernel_rfl) (by kernel_rfl) (by kernel_rfl) (fun _ _ _ h => h) (Or.inl ⟨by rfl, ?_⟩) (by assumption) ?_; rotate_left; (focus (intro w hSw; (try dsimp only at hSw); go_simp; (try with_reducible rfl))); (try simp only [Act.put, List.setIfInBounds_toArray, List.set_cons_zero, List.set_cons_succ]))
          (refine wpAnyT_take (i := 4) (v := ?_) (by rfl) (by kernel_rfl) (by kernel_rfl) (by kernel_rfl) (by kernel_rfl) (fun _ _ _ h => h) (Or.inl ⟨by rfl, ?_⟩) (by assumption) ?_; rotate_left; (focus (intro w hSw; (try dsimp only at hSw); go_simp; (try with_reducible rfl))); (try simp only [Act.put, List.setIfInBounds_toArray, List.set_cons_zero, List.set_cons_succ]))
          (refine wpAnyT_take (i := 5) (v := ?_) (by rfl) (by kernel_rfl) (by kernel_rfl) (by kernel_rfl) (by kernel_rfl) (fun _ _ _ h => h) (Or.inl ⟨by rfl, ?_⟩) (by assumption) ?_; rotate_left; (focus (intro w hSw; (try dsimp only at hSw); go_simp; (try with_reducible rfl))); (try simp only [Act.put, List.setIfInBounds_toArray, List.set_cons_zero, List.set_cons_succ]))
          (refine wpAnyT_take (i := 6) (v := ?_) (by rfl) (by kernel_rfl) (by kernel_rfl) (by kernel_rfl) (by kernel_rfl) (fun _ _ _ h => h) (Or.inl ⟨by rfl, ?_⟩) (by assumption) ?_; rotate_left; (focus (intro w hSw; (try dsimp only at hSw); go_simp; (try with_reducible rfl))); (try simp only [Act.put, List.setIfInBounds_toArray, List.set_cons_zero, List.set_cons_succ]))
          (refine wpAnyT_take (i := 7) (v := ?_) (by rfl) (by kernel_rfl) (by kernel_rfl) (by kernel_rfl) (by kernel_rfl) (fun _ _ _ h => h) (Or.inl ⟨by rfl, ?_⟩) (by assumption) ?_; rotate_left; (focus (intro w hSw; (try dsimp only at hSw); go_simp; (try with_reducible rfl))); (try simp only [Act.put, List.setIfInBounds_toArray, List.set_cons_zero, List.set_cons_succ]))
          (refine wpAnyT_take (i := 8) (v := ?_) (by rfl) (by kernel_rfl) (by kernel_rfl) (by kernel_rfl) (by kernel_rfl) (fun _ _ _ h => h) (Or.inl ⟨by rfl, ?_⟩) (by assumption) ?_; rotate_left; (focus (intro w hSw; (try dsimp only at hSw); go_simp; (try with_reducible rfl))); (try simp only [Act.put, List.setIfInBounds_toArray, List.set_cons_zero, List.set_cons_succ]))
          (refine wpAnyT_take (i := 9) (v := ?_) (by rfl) (by kernel_rfl) (by kernel_rfl) (by kernel_rfl) (by kernel_rfl) (fun _ _ _ h => h) (Or.inl ⟨by rfl, ?_⟩) (by assumption) ?_; rotate_left; (focus (intro w hSw; (try dsimp only at hSw); go_simp; (try with_reducible rfl))); (try simp only [Act.put, List.setIfInBounds_toArray, List.set_cons_zero, List.set_cons_succ]))
          refine wpAnyT_take (i := 10) (v := .slice (some Ad) (n - (k + 1)) (c0 - (k + 1))) (by rfl) (by kernel_rfl) (by kernel_rfl) (by kernel_rfl) (by kernel_rfl) (fun _ _ _ h => h) (Or.inl ⟨by rfl, ?_⟩) (by assumption) ?_
          · intro w hSw
            go_simp
            first | (simp [hAd.out]; done) | (rw [hAd.out]; done) | (simp only [hAd.out]; done)
          (try simp only [Act.put, List.setIfInBounds_toArray, List.set_cons_zero, List.set_cons_succ])
          refine wpAnyT_one (i := 11) (by kernel_rfl) (by rfl) (fun K hK => ?_)
          refine step_append_grows rfl (.tmp 33) (.tmp 38) 39 rfl 27 i0 (.agg #[.int .i64 0, .int .i64 0, .int .i64 0]) 3 24 Try.underlying39 hi hz0 hz1 hz2 rfl (by decide) ka nk nk (cellsG fClue kept) ?c0 ?c1 ?c2 ?c3 (some Ad) (n - (k + 1)) (c0 - (k + 1)) (cellsG fClue (cs.drop (k + 1))) ?c4 (by simp) ?c5 ?c6 (cellsG_one _ _) ?c7 ?c8 ?c9 ?_
          case c0 => simp [Act.eval, Act.put]
          case c1 => exact fun e => ⟨((own_addr hown8).1 e).1, ((own_addr hown8).1 e).1⟩
          case c2 => rw [cellsG_len fClue_len, hLl.out]
          case c3 => exact fun b e j u hu => (own_addr hown8).2.2.2 b e j u hu
          case c4 => simp [Act.eval, Act.put]
          case c5 => rw [cellsG_len fClue_len, List.length_drop, HN.out]
          case c6 => exact fun ad e j u hu => by injection e with e; rw [← e, HA2.out]; exact row_rest hL8 HN.out (by omega) j u hu
          case c7 => omega
          case c8 => unfold maxLen; omega
          case c9 => omega
          intro v9 w9 hown9 hgr9
          have hb9 : Below w8.heap.size w8 w9 := Below.grown (by (repeat (first | with_reducible exact Below.refl _ _ | with_reducible assumption | with_reducible refine balloc ?_ _ | with_reducible refine bdrew ?_ | with_reducible refine below_drewN ?_ _ | with_reducible refine bset ?_ ?_ _ | with_reducible exact Nat.le_refl _ | with_reducible refine bsize ?_ | (dsimp only; refine Nat.le_trans ?_ (Nat.le_add_right _ _)) | with_reducible refine Nat.le_trans ?_ (Nat.le_add_right _ _) | (with_reducible refine bstep ?_ (by assumption))))) hgr9 (Nat.le_refl _) (fun g e => by cases e)
          have hrw9 : RowG 3 fClue w9 v9 (kept ++ cs.drop (k + 1)) := by
            refine rowG_own (base := w8.heap.size) (e := 27) fClue_len ?_ (fun p' hp' => ?_)
            · rw [List.length_append, List.length_drop, hLl.out, HN.out, cellsG_append]; exact hown9
            · rcases List.mem_append.1 hp' with h9 | h9
              · exact HBD.out p' (hLs.out p' h9)
              · exact HBD.out p' (List.mem_of_mem_drop h9)
          have hby9 := hby8.later hb9
          refine hK.out _ _ (Or.inr (by simpa using hby9.cell 1)) (fun hHeld => ?_)
          clear hK
          clear K
          (try simp only [Act.put, List.setIfInBounds_toArray, List.set_cons_zero, List.set_cons_succ])
          refine wpAnyT_one (i := 12) (by kernel_rfl) (by rfl) (fun K hK => ?_)
          go_simp
          refine hK.out _ _ (Or.inl rfl) (fun _ => ?_)
          refine wpAnyT_done (by kernel_rfl) ?_ _
          refine NoPanic.normal ?_
          clear hK
          clear K
          clear hown9 hgr9 hby9
          go_upto_region 9 with fail
          obtain ⟨va9, vc9, hv9, _, _⟩ := row_shape hrw9
          obtain ⟨n9, hn9⟩ : ∃ n, (kept ++ cs.drop (k + 1)).length = n := ⟨_, rfl⟩
          rw [hn9] at hv9
          subst hv9
          clear hn9
        all_goals
          have hby9 := hby8.later hb9
          have hbx9 := hbx8.later hb9
          have hbc9 := hbc8.later hb9
          have hown9 := ownsRow_below hown8 hb9
          have hbw9 := bstep hbw8 hb9
          have q0 := hby9.cell 0
          simp at q0
          have HSC := Lib.hid (HSK.out w9 _ (kept ++ cs.drop (k + 1)) hmem.out hlen8.out hrw9)
          clear hrw9 hby8 hbx8 hbc8 hown8 hbw8 hb9
          go_wp2_with fail
          refine Calls.mono HSC.out ?_
          rintro e w10 ⟨rfl, hb10⟩
          have hby10 := hby9.later hb10
          have hbx10 := hbx9.later hb10
          have hbc10 := hbc9.later hb10
          have hown10 := ownsRow_below hown9 hb10
          have hbw10 := bstep hbw9 hb10
          clear hby9 hbx9 hbc9 hown9 hbw9 hb10 HSC q0
          by_cases hq : (solL m (kept ++ cs.drop (k + 1))).length = 1
          · have hd : decide ((solL m (kept ++ cs.drop (k + 1))).length = 1) = true := by simpa using hq
            rw [hd]
            have hnx : Hid (hdF m kept (cs.drop (k + 1)) = R) := Lib.hid (by rw [← hLR.out, hdrop.out, hdF, if_pos hq])
            clear hq hd
            go_wp2
            go_roundw
            case rel => exact ⟨k + 1, nk, _, kept, rfl, by go_num, by omega, by omega, hLl, hLs, hnx, hown10, hby10, hbx10, hbw10⟩
            case measure => simp [intOf]; omega
          · have hd : decide ((solL m (kept ++ cs.drop (k + 1))).length = 1) = false := by simpa using hq
            rw [hd]
            have hnx : Hid (hdF m (kept ++ [p]) (cs.drop (k + 1)) = R) := Lib.hid (by rw [← hLR.out, hdrop.out, hdF, if_neg hq])
            have hz10 := hbw10.size
            have k0 := hbc10.cell 0
            have k1 := hbc10.cell 1
            have k2 := hbc10.cell 2
            simp at k0 k1 k2
            clear hq hd
            go_wp2_with (at_builtin; refine wpList_append_own _ rfl _ _ 39 rfl w.heap.size 27 i0 (.agg #[.int .i64 0, .int .i64 0, .int .i64 0]) 3 24 Try.underlying39 hi hz0 hz1 hz2 rfl (by decide) (.slice ka nk kc) nk (cellsG fClue kept) rfl (hown10.alloc _) ⟨w10.heap.size, 0, none⟩ 1 1 [.int .i64 p.k, .int .i64 p.a, .int .i64 p.b] ?c0 rfl ?c1 ?c2 ?c3 ?c4 ?c5 ?_)
            case c0 => simp [Act.eval, Act.put]
            case c1 => (intro j u hj; rcases j with _ | _ | _ | j <;> simp at hj <;> subst hj <;> simp [go_sem]; done)
            case c2 => simp [Value.oneCell']
            case c3 => unfold maxLen; omega
            case c4 => omega
            case c5 => simp; omega
            intro v11 w11 hown11 hgr11 _
            have hbA : Below w10.heap.size w10 (w10.alloc (.cells #[.int .i64 p.k, .int .i64 p.a, .int .i64 p.b] 27)) := balloc (Below.refl _ _) _
            have hoA := ownsRow_below hown10 hbA
            have hby11 : Blk w.heap.size _ 41 w11 := (hgr11.block _ (hby10.later hbA).lt (fun e => neT hoA (hby10.later hbA) (by decide) e.symm)).trans (hby10.later hbA)
            have hbx11 : Blk (w.heap.size + 1) #[.int .i64 0, .slice none 0 0] 41 w11 := (hgr11.block _ (hbx10.later hbA).lt (fun e => neT hoA (hbx10.later hbA) (by decide) e.symm)).trans (hbx10.later hbA)
            have hbw11 : Below w.heap.size w w11 := grown_bel (bstep hbw10 hbA) hgr11 hoA (Nat.le_refl _)
            have hown11' : w11.ownsRow w.heap.size 27 3 v11 (nk + 1) (cellsG fClue (kept ++ [p])) := by rw [cellsG_append]; exact hown11
            obtain ⟨v11a, v11c, rfl⟩ := owns_shape hown11'
            clear hbA hoA hown11 hgr11 hown10 hby10 hbx10 hbc10 hbw10
            go_wp2
            go_roundw
            case rel => exact ⟨k + 1, nk + 1, _, kept ++ [p], rfl, by go_num, by omega, by omega, Lib.hid (by rw [List.length_append, hLl.out]; rfl), Lib.hid (fun p' hp' => by rcases List.mem_append.1 hp' with h9 | h9; exact hLs.out p' h9; (simp at h9; subst h9; exact List.mem_of_getElem? hHp.out)), hnx, hown11', hby11, hbx11, hbw11⟩
            case measure => simp [intOf]; omega
      · have hkn : k = n := by omega
        subst hkn
        have hRL : Hid (R = kept) := Lib.hid (by rw [← hLR.out, List.drop_of_length_le (by rw [HN.out]; exact Nat.le_refl _), hdF])
        have r0 := hbx6.cell 0
        have r1 := hbx6.cell 1
        have z0 := hbx6.frozen 0
        have z1 := hbx6.frozen 1
        have q0 := hby6.cell 0
        simp at r0 r1 q0
        have hne := neT (b := w.heap.size + 1) hown6 hbx6 (by decide)
        go_wp2
        refine bodyPost_ret (v := .tuple #[.agg #[.int .i64 m, .slice ka nk kc], .bool true]) (by simp only [results, Try.results45]; go_simp) rfl ?_
        exact ⟨_, rfl, by rw [hRL.out, hLl.out]; exact own_set (p := ⟨w.heap.size + 1, 1, none⟩) (own_set (p := ⟨w.heap.size + 1, 0, none⟩) hown6 hne _) hne _, by (repeat (first | with_reducible exact Below.refl _ _ | with_reducible assumption | with_reducible refine balloc ?_ _ | with_reducible refine bdrew ?_ | with_reducible refine below_drewN ?_ _ | with_reducible refine bset ?_ ?_ _ | with_reducible exact Nat.le_refl _ | with_reducible refine bsize ?_ | (dsimp only; refine Nat.le_trans ?_ (Nat.le_add_right _ _)) | with_reducible refine Nat.le_trans ?_ (Nat.le_add_right _ _) | (with_reducible refine bstep ?_ (by assumption))))⟩
end Go.Proofs.Ytiafmojmanhdoaa
