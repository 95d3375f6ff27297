/- Takings of fuel: the model's walk. -/
import Derived.Test.YtoienhjbhpdehaaTakN
import Derived.Deep.RegionHeld3
import Derived.Deep.DeepCutAuto
import Derived.Deep.CutBlock
namespace Go.Proofs.Ytoienhjbhpdehaa
open Go.ChangeShapes Go.WideShapes Go.ChangeAt Go.RowKit Go.Joins
set_option maxRecDepth 100000
set_option linter.unusedVariables false
set_option linter.unusedSimpArgs false

theorem infoBool0 : (Try.prog.info? 4).map (fun i => (i.zero, i.size, i.bytes)) = some (some (.bool false), 1, 1) := by kernel_rfl
set_option maxHeartbeats 6400000 in
theorem takings_spec (fuel way : Int) (v : Value) (l : List StaV) (w : World) (h : RowG 2 fSta w v l) :
    Calls Try.prog 5 #[.int .i64 fuel, .int .i64 way, v] w fun e w' => e = .returned (.tuple #[.int .i64 (ftV fuel way l), .bool (ftB fuel way l)]) ∧ Below w.heap.size w w' := by
  have HL := Lib.hid (fun W (hB : Below w.heap.size w W) => weSta_row v l W (rowG_below h hB))
  obtain ⟨a0, c0, hv0, hl1, hl2⟩ := row_shape h
  cases h1 : inB fuel 0 100000
  · have e := ft_no (fuel := fuel) (way := way) (l := l) (by simp [ftOk, h1])
    rw [e.1, e.2]
    subst hv0
    clear e h
    go_enter Try.func5, Try.ntmps5
    go_wp2_with (go_at_call 9; refine (in_spec _ _ _ _).mono ?_; rintro e w1 ⟨rfl, rfl⟩; rw [h1])
    all_goals first | (exfalso; rename_i hx; simp at hx; omega) | (refine bodyPost_ret (v := .tuple #[.int .i64 0, .bool false]) (by simp only [results, Try.results5]; go_simp) rfl ⟨rfl, ?_⟩; first | rfl | ((repeat (first | with_reducible exact Below.refl _ _ | with_reducible assumption | with_reducible refine balloc ?_ _ | with_reducible refine bdrew ?_ | with_reducible refine below_drewN ?_ _ | with_reducible refine bset ?_ ?_ _ | with_reducible exact Nat.le_refl _ | with_reducible refine bsize ?_ | (dsimp only; refine Nat.le_trans ?_ (Nat.le_add_right _ _)) | with_reducible refine Nat.le_trans ?_ (Nat.le_add_right _ _) | (with_reducible refine bstep ?_ (by assumption)))); done))
  · cases h2 : inB way 0 100000
    · have e := ft_no (fuel := fuel) (way := way) (l := l) (by simp [ftOk, h2])
      rw [e.1, e.2]
      subst hv0
      clear e h
      go_enter Try.func5, Try.ntmps5
      go_wp2_with (go_at_call 9; refine (in_spec _ _ _ _).mono ?_; rintro e w1 ⟨rfl, rfl⟩; first | rw [h1] | rw [h2])
      all_goals first | (exfalso; rename_i hx; simp at hx; omega) | (refine bodyPost_ret (v := .tuple #[.int .i64 0, .bool false]) (by simp only [results, Try.results5]; go_simp) rfl ⟨rfl, ?_⟩; first | rfl | ((repeat (first | with_reducible exact Below.refl _ _ | with_reducible assumption | with_reducible refine balloc ?_ _ | with_reducible refine bdrew ?_ | with_reducible refine below_drewN ?_ _ | with_reducible refine bset ?_ ?_ _ | with_reducible exact Nat.le_refl _ | with_reducible refine bsize ?_ | (dsimp only; refine Nat.le_trans ?_ (Nat.le_add_right _ _)) | with_reducible refine Nat.le_trans ?_ (Nat.le_add_right _ _) | (with_reducible refine bstep ?_ (by assumption)))); done))
    · cases h3 : lstB 20 l
      · have e := ft_no (fuel := fuel) (way := way) (l := l) (by simp [ftOk, h3])
        rw [e.1, e.2]
        rw [h3] at HL
        subst hv0
        clear e h
        go_enter Try.func5, Try.ntmps5
        go_wp2_with (first | (go_at_call 9; refine (in_spec _ _ _ _).mono ?_; rintro e w1 ⟨rfl, rfl⟩; first | rw [h1] | rw [h2]) | (go_at_call 10; refine (HL.out _ (Below.refl _ _)).mono ?_; rintro e w1 ⟨rfl, hb1⟩))
        all_goals first | (exfalso; rename_i hx; simp at hx; omega) | (refine bodyPost_ret (v := .tuple #[.int .i64 0, .bool false]) (by simp only [results, Try.results5]; go_simp) rfl ⟨rfl, ?_⟩; first | rfl | ((repeat (first | with_reducible exact Below.refl _ _ | with_reducible assumption | with_reducible refine balloc ?_ _ | with_reducible refine bdrew ?_ | with_reducible refine below_drewN ?_ _ | with_reducible refine bset ?_ ?_ _ | with_reducible exact Nat.le_refl _ | with_reducible refine bsize ?_ | (dsimp only; refine Nat.le_trans ?_ (Nat.le_add_right _ _)) | with_reducible refine Nat.le_trans ?_ (Nat.le_add_right _ _) | (with_reducible refine bstep ?_ (by assumption)))); done))
      · have hok : ftOk fuel way l = true := by simp [ftOk, h1, h2, h3]
        have hf : 0 ≤ fuel ∧ fuel ≤ 100000 := by simpa [inB] using h1
        have hw : 0 ≤ way ∧ way ≤ 100000 := by simpa [inB] using h2
        have hk := tkOk_of h3
        have hHit := Lib.hid (fun (k : Nat) (hk : k ≤ l.length) h1 h2 => ft_hit (fuel := fuel) (way := way) hok hk h1 h2)
        have hNone := Lib.hid (fun h2 => ft_none (fuel := fuel) (way := way) (l := l) h2)
        have HBd := Lib.hid (fun i => tkAt_bd hk i)
        have HGet := Lib.hid (fun i => tkOk_get hk i)
        have HAt : Hid (∀ i : Nat, tkAt l (i + 1) = tkAt l i + (l.getD i default).b) := Lib.hid (fun i => rfl)
        have hn := hk.hn
        have hst := Lib.hid (tkSt_start fuel way l l.length)
        have hrow0 := Lib.hid (rowB_made l.length)
        rw [h3] at HL
        subst hv0
        have HRow := Lib.hid h
        clear h
        have HCell := Lib.hid (fun (i : Nat) (hi : i < l.length) (W : World) (hB : Below w.heap.size w W) => (by
          rcases rowG_below HRow.out hB with ⟨e, el⟩ | ⟨a, cap, e, hL⟩
          · rw [el] at hi; exact absurd hi (Nat.not_lt_zero _)
          · injection e with e1 e2 e3
            have hp : l[i]? = some (l.getD i default) := by simp [List.getD, hi]
            have hc := hL.hcell i _ hp
            have e0 := hc 0 (l.getD i default).a rfl
            rw [Nat.add_zero] at e0
            have e1' : W.cell? ⟨(a.add (i * 2)).block, (a.add (i * 2)).off + 1, none⟩ = some (.int .i64 (l.getD i default).b) := by
              have h := hc 1 (l.getD i default).b rfl
              rw [← Deep.add_add] at h
              exact h
            exact ⟨a, e1, e0, e1'⟩ : ∃ a : Addr, a0 = some a ∧ W.cell? (a.add (i * 2)) = some (.int .i64 (l.getD i default).a) ∧ W.cell? ⟨(a.add (i * 2)).block, (a.add (i * 2)).off + 1, none⟩ = some (.int .i64 (l.getD i default).b)))
        obtain ⟨V, hV⟩ : ∃ V, ftV fuel way l = V := ⟨_, rfl⟩
        obtain ⟨B, hB⟩ : ∃ B, ftB fuel way l = B := ⟨_, rfl⟩
        rw [hV, hB]
        rw [hV, hB] at hHit hNone
        clear hV hB hok hk
        have hat0 : tkAt l 0 = 0 := rfl
        generalize hnn : l.length = n at *
        clear hnn
        have hmk : ∀ W : World, (Instr.makeSlice 32 (.int .i64 (n : Int)) (.int .i64 (n : Int))).run Try.prog W = .ok (.slice (some ⟨W.heap.size, 0, none⟩) n n) (W.alloc (.cells (madeCells #[(.bool false : Value)] n) 4)) := fun W => run_make_row' (P := Try.prog) 32 4 (.bool false) 1 Try.underlying32 infoBool0 rfl .i64 .i64 n (by omega) (by omega) W
        have hown0 : ∀ W : World, w.heap.size ≤ W.heap.size → (W.alloc (.cells (madeCells #[(.bool false : Value)] n) 4)).ownsRow w.heap.size 4 1 (.slice (some ⟨W.heap.size, 0, none⟩) n n) n (rowB n (fun _ => false)) := fun W hW => by
          have h := World.ownsRow_lit (e := 4) (size := 1) W (madeCells #[(.bool false : Value)] n) n hW (by unfold maxLen; omega) (by simp [madeCells])
          rw [hrow0.out] at h
          exact h
        replace hown0 := Lib.hid hown0
        go_enter Try.func5, Try.ntmps5
        go_wp2_with (first | (go_at_call 9; refine (in_spec _ _ _ _).mono ?_; rintro e w1 ⟨rfl, rfl⟩; first | rw [h1] | rw [h2]) | (go_at_call 10; refine (HL.out _ (Below.refl _ _)).mono ?_; rintro e w1 ⟨rfl, hb1⟩))
        have hsz1 := hb1.size
        have hown := hown0.out w1 hsz1
        have hbel : Below w.heap.size w (w1.alloc (.cells (madeCells #[(.bool false : Value)] n) 4)) := by (repeat (first | with_reducible exact Below.refl _ _ | with_reducible assumption | with_reducible refine balloc ?_ _ | with_reducible refine bdrew ?_ | with_reducible refine below_drewN ?_ _ | with_reducible refine bset ?_ ?_ _ | with_reducible exact Nat.le_refl _ | with_reducible refine bsize ?_ | (dsimp only; refine Nat.le_trans ?_ (Nat.le_add_right _ _)) | with_reducible refine Nat.le_trans ?_ (Nat.le_add_right _ _) | (with_reducible refine bstep ?_ (by assumption))))
        generalize hW2 : w1.alloc (.cells (madeCells #[(.bool false : Value)] n) 4) = w2 at *
        have hgl : w.heap.size ≤ w1.heap.size := hsz1
        generalize w1.heap.size = g at *
        clear hW2 hmk hown0 hrow0 HL hb1
        go_loopw [0, 8, 9, 10] (fun fu ta at_ pa wr => ∃ (t m : Nat) (U : Nat → Bool) (r : Int), fu = .int .i64 r ∧ ta = .int .i64 t ∧ at_ = .int .i64 (tkAt l m) ∧ pa = .int .i64 m ∧ 0 ≤ r ∧ r ≤ 101000 ∧ m ≤ n ∧ t ≤ n ∧ Hid (TkSt fuel way l n t m U r) ∧ wr.ownsRow w.heap.size 4 1 (.slice (some ⟨g, 0, none⟩) n n) n (rowB n U) ∧ Below w.heap.size w wr) (fun _ ta _ _ _ => n - (intOf ta).toNat)
        case atStart => exact ⟨0, 0, fun _ => false, fuel, rfl, rfl, by rw [hat0], rfl, hf.1, by omega, Nat.zero_le _, Nat.zero_le _, hst, hown, hbel⟩
        case round =>
          obtain ⟨t, m, U, r, rfl, rfl, rfl, rfl, hr0, hr1, hmn, htn, hS, hown2, hbel2⟩ := hrel
          rename World => wo
          clear hown hbel hst hat0
          by_cases hlt : r < way
          · go_upto_block 2 with fail
            go_cut [9, 10] (fun at_ pa wx => ∃ m : Nat, at_ = .int .i64 (tkAt l m) ∧ pa = .int .i64 m ∧ Hid (TkSt fuel way l n t m U r) ∧ Hid (m < n → r < tkAt l (m + 1)) ∧ wx = wo)
            case first =>
              go_wp2_with fail
              go_loopw [9, 10] (fun x y wr => ∃ m' : Nat, x = .int .i64 (tkAt l m') ∧ y = .int .i64 m' ∧ m' ≤ n ∧ Hid (TkSt fuel way l n t m' U r) ∧ wr = wo) (fun _ y _ => n - (intOf y).toNat)
              case atStart => exact ⟨m, rfl, rfl, hmn, hS, rfl⟩
              case round =>
                obtain ⟨m', rfl, rfl, hm', hS', hw'⟩ := hrel
                replace hw' := hw'.symm
                subst hw'
                have hAb := HBd.out m'
                by_cases hlm : m' < n
                · obtain ⟨a, hae, e0, e1⟩ := HCell.out m' hlm wo hbel2
                  subst hae
                  have hG := HGet.out m'
                  have hA := HAt.out m'
                  have hpass := Lib.hid (fun hp => tkSt_pass hS'.out hlm hp)
                  rw [hA] at hpass
                  have hstop : Hid (r < tkAt l m' + (l.getD m' default).b → m' < n → r < tkAt l (m' + 1)) := Lib.hid (fun h _ => by rw [hA]; exact h)
                  replace hA := Lib.hid hA
                  have i1 : (0 : Int) ≤ (m' : Int) ∧ (m' : Int) < (n : Int) := by omega
                  generalize (l.getD m' default).a = f at *
                  generalize (l.getD m' default).b = b at *
                  generalize hpp : tkAt l m' = p at *
                  replace hpp := Lib.hid hpp
                  have wq := IntWalk.i64_in (p + b) (by omega)
                  by_cases hp : p + b ≤ r
                  · have hS2 := Lib.hid (hpass.out hp)
                    clear hpass hstop e0 hG
                    go_wp2
                    all_goals first | (exfalso; omega) | skip
                    all_goals
                      go_roundw
                      case rel => exact ⟨m' + 1, by rw [hA.out], by go_num, by omega, hS2, trivial⟩
                      case measure => first | (simp [intOf]; done) | (simp [intOf]; omega)
                  · have hs := Lib.hid (hstop.out (by omega))
                    have hp2 : ¬ (p + b ≤ r) := hp
                    clear hpass hstop e0 hG
                    go_wp2
                    all_goals first | (exfalso; omega) | skip
                    all_goals go_meet
                    all_goals exact ⟨m', by rw [hpp.out], rfl, hS', hs, by first | rfl | trivial⟩
                · have hs : Hid (m' < n → r < tkAt l (m' + 1)) := Lib.hid (fun h => absurd h hlm)
                  have e0 : m' = n := by omega
                  generalize hpp : tkAt l m' = p at *
                  replace hpp := Lib.hid hpp
                  go_wp2
                  all_goals go_meet
                  all_goals exact ⟨m', by rw [hpp.out], rfl, hS', hs, by first | rfl | trivial⟩
            case rest =>
              obtain ⟨m', rfl, rfl, hS', hs, hw'⟩ := hcut
              subst hw'
              have hmn' := hS'.out.hm
              have htm := hS'.out.hc
              clear hS hmn
              rename_i m
              go_upto_block 4 with fail
              go_cut [12] (fun be wx => ∃ b : Int, be = .int .i64 b ∧ Hid (TkBest l U m' b) ∧ wx.ownsRow w.heap.size 4 1 (.slice (some ⟨g, 0, none⟩) n n) n (rowB n U) ∧ Below w.heap.size w wx)
              case first =>
                go_wp2_with fail
                go_loopw [12, 13] (fun x y wr => ∃ (k : Nat) (b : Int), x = .int .i64 b ∧ y = .int .i64 k ∧ k ≤ m' ∧ Hid (TkBest l U k b) ∧ wr.ownsRow w.heap.size 4 1 (.slice (some ⟨g, 0, none⟩) n n) n (rowB n U) ∧ Below w.heap.size w wr) (fun _ y _ => m' - (intOf y).toNat)
                case atStart => exact ⟨0, -1, rfl, rfl, Nat.zero_le _, Lib.hid (Or.inl ⟨rfl, rfl⟩), hown2, hbel2⟩
                case round =>
                  obtain ⟨k, b, rfl, rfl, hk, hBst, hown3, hbel3⟩ := hrel
                  by_cases hlk : k < m'
                  · have hu : wr.cell? ⟨g, k, none⟩ = some (.bool (U k)) := by
                      rw [hown3.cellAt k (by omega), rowB_get _ _ _ (by omega)]
                    have hgr : g < wr.heap.size := (hown3.lt g rfl).2
                    have i1 : (0 : Int) ≤ (k : Int) ∧ (k : Int) < (n : Int) := by omega
                    obtain ⟨a, hae, e0, e1⟩ := HCell.out k (by omega) wr hbel3
                    subst hae
                    clear e1
                    cases hU : U k
                    · rw [hU] at hu
                      rcases hBst.out with ⟨hb, hav⟩ | ⟨kb, hb, hkb, hUb, hmax⟩
                      · subst hb
                        have hnx := Lib.hid (tkBest_first hav hU)
                        clear hav hBst
                        generalize (l.getD k default).a = f at *
                        go_upto_region 14 with fail
                        refine wp_region_noPanic ?_
                        refine wp_region_held_drew (S := (fun W => W.cell? ⟨g, k, none⟩ = some (.bool false))) (by kernel_rfl) ?_ (fun hHeld0 => ?_)
                        · (try dsimp only); (first | with_reducible assumption | (simp [go_sem, hu]; done) | go_keep)
                        (refine wpAnyH_take (i := 0) (oi := { dst := some 62, op := Op.move (Operand.tmp 11), type := 32, pos := "l6_well.go:250", after := #[], guard := none }) (v := ?_) rfl (by kernel_rfl) (by kernel_rfl) (by kernel_rfl) (fun _ _ _ h => h) (Or.inl ⟨by rfl, ?_⟩) (by assumption) ?_; rotate_left; (focus (intro w hSw; (try dsimp only at hSw); go_simp; try with_reducible rfl)); (try simp only [Act.put, List.setIfInBounds_toArray, List.set_cons_zero, List.set_cons_succ]))
                        (refine wpAnyH_take (i := 1) (oi := { dst := some 63, op := Op.move (Operand.tmp 13), type := 3, pos := "l6_well.go:250", after := #[], guard := none }) (v := ?_) rfl (by kernel_rfl) (by kernel_rfl) (by kernel_rfl) (fun _ _ _ h => h) (Or.inl ⟨by rfl, ?_⟩) (by assumption) ?_; rotate_left; (focus (intro w hSw; (try dsimp only at hSw); go_simp; try with_reducible rfl)); (try simp only [Act.put, List.setIfInBounds_toArray, List.set_cons_zero, List.set_cons_succ]))
                        (refine wpAnyH_take (i := 2) (oi := { dst := some 64, op := Op.indexAddr 32 (Operand.tmp 62) (Operand.tmp 63), type := 0, pos := "l6_well.go:250", after := #[{ on := 0, ground := Ground.data }, { on := 1, ground := Ground.data }], guard := none }) (v := ?_) rfl (by kernel_rfl) (by kernel_rfl) (by kernel_rfl) (fun _ _ _ h => h) (Or.inl ⟨by rfl, ?_⟩) (by assumption) ?_; rotate_left; (focus (intro w hSw; (try dsimp only at hSw); go_simp; try with_reducible rfl)); (try simp only [Act.put, List.setIfInBounds_toArray, List.set_cons_zero, List.set_cons_succ]))
                        (refine wpAnyH_take (i := 3) (oi := { dst := some 65, op := Op.load 4 (Operand.tmp 64), type := 4, pos := "l6_well.go:250", after := #[{ on := 2, ground := Ground.data }], guard := none }) (v := ?_) rfl (by kernel_rfl) (by kernel_rfl) (by kernel_rfl) (fun _ _ _ h => h) (Or.inl ⟨by rfl, ?_⟩) (by assumption) ?_; rotate_left; (focus (intro w hSw; (try dsimp only at hSw); go_simp; try with_reducible rfl)); (try simp only [Act.put, List.setIfInBounds_toArray, List.set_cons_zero, List.set_cons_succ]))
                        (refine wpAnyH_take (i := 4) (oi := { dst := some 66, op := Op.unOp UnOp.not 4 (Operand.tmp 65), type := 4, pos := "l6_well.go:250", after := #[{ on := 3, ground := Ground.data }], guard := none }) (v := ?_) rfl (by kernel_rfl) (by kernel_rfl) (by kernel_rfl) (fun _ _ _ h => h) (Or.inl ⟨by rfl, ?_⟩) (by assumption) ?_; rotate_left; (focus (intro w hSw; (try dsimp only at hSw); go_simp; try with_reducible rfl)); (try simp only [Act.put, List.setIfInBounds_toArray, List.set_cons_zero, List.set_cons_succ]))
                        (refine wpAnyH_take (i := 5) (oi := { dst := some 67, op := Op.move (Operand.tmp 66), type := 4, pos := "l6_well.go:250", after := #[{ on := 4, ground := Ground.data }], guard := none }) (v := ?_) rfl (by kernel_rfl) (by kernel_rfl) (by kernel_rfl) (fun _ _ _ h => h) (Or.inl ⟨by rfl, ?_⟩) (by assumption) ?_; rotate_left; (focus (intro w hSw; (try dsimp only at hSw); go_simp; try with_reducible rfl)); (try simp only [Act.put, List.setIfInBounds_toArray, List.set_cons_zero, List.set_cons_succ]))
                        (refine wpAnyH_take (i := 6) (oi := { dst := some 68, op := Op.move (Operand.tmp 12), type := 3, pos := "l6_well.go:250", after := #[{ on := 5, ground := Ground.guard }], guard := some (5, true) }) (v := ?_) rfl (by kernel_rfl) (by kernel_rfl) (by kernel_rfl) (fun _ _ _ h => h) (Or.inl ⟨by rfl, ?_⟩) (by assumption) ?_; rotate_left; (focus (intro w hSw; (try dsimp only at hSw); go_simp; try with_reducible rfl)); (try simp only [Act.put, List.setIfInBounds_toArray, List.set_cons_zero, List.set_cons_succ]))
                        (refine wpAnyH_take (i := 7) (oi := { dst := some 69, op := Op.binOp BinOp.lss 3 (Operand.tmp 68) (Operand.const (Value.int IntKind.i64 0)) 3, type := 4, pos := "l6_well.go:250", after := #[{ on := 6, ground := Ground.data }, { on := 5, ground := Ground.guard }], guard := some (5, true) }) (v := ?_) rfl (by kernel_rfl) (by kernel_rfl) (by kernel_rfl) (fun _ _ _ h => h) (Or.inl ⟨by rfl, ?_⟩) (by assumption) ?_; rotate_left; (focus (intro w hSw; (try dsimp only at hSw); go_simp; try with_reducible rfl)); (try simp only [Act.put, List.setIfInBounds_toArray, List.set_cons_zero, List.set_cons_succ]))
                        (refine wpAnyH_take (i := 8) (oi := { dst := some 70, op := Op.move (Operand.tmp 69), type := 4, pos := "l6_well.go:250", after := #[{ on := 7, ground := Ground.data }, { on := 5, ground := Ground.chain }, { on := 5, ground := Ground.guard }], guard := some (5, true) }) (v := ?_) rfl (by kernel_rfl) (by kernel_rfl) (by kernel_rfl) (fun _ _ _ h => h) (Or.inl ⟨by rfl, ?_⟩) (by assumption) ?_; rotate_left; (focus (intro w hSw; (try dsimp only at hSw); go_simp; try with_reducible rfl)); (try simp only [Act.put, List.setIfInBounds_toArray, List.set_cons_zero, List.set_cons_succ]))
                        (refine wpAnyH_take (i := 9) (oi := { dst := some 71, op := Op.move (Operand.tmp 2), type := 26, pos := "l6_well.go:250", after := #[{ on := 8, ground := Ground.guard }], guard := some (8, false) }) (v := undef) rfl (by kernel_rfl) (by kernel_rfl) (by kernel_rfl) (fun _ _ _ h => h) (Or.inr ⟨by rfl, rfl⟩) (by assumption) ?_; (try simp only [Act.put, List.setIfInBounds_toArray, List.set_cons_zero, List.set_cons_succ]))
                        (refine wpAnyH_take (i := 10) (oi := { dst := some 72, op := Op.move (Operand.tmp 13), type := 3, pos := "l6_well.go:250", after := #[{ on := 8, ground := Ground.guard }], guard := some (8, false) }) (v := undef) rfl (by kernel_rfl) (by kernel_rfl) (by kernel_rfl) (fun _ _ _ h => h) (Or.inr ⟨by rfl, rfl⟩) (by assumption) ?_; (try simp only [Act.put, List.setIfInBounds_toArray, List.set_cons_zero, List.set_cons_succ]))
                        (refine wpAnyH_take (i := 11) (oi := { dst := some 73, op := Op.indexAddr 26 (Operand.tmp 71) (Operand.tmp 72), type := 0, pos := "l6_well.go:250", after := #[{ on := 9, ground := Ground.data }, { on := 10, ground := Ground.data }, { on := 8, ground := Ground.guard }], guard := some (8, false) }) (v := undef) rfl (by kernel_rfl) (by kernel_rfl) (by kernel_rfl) (fun _ _ _ h => h) (Or.inr ⟨by rfl, rfl⟩) (by assumption) ?_; (try simp only [Act.put, List.setIfInBounds_toArray, List.set_cons_zero, List.set_cons_succ]))
                        (refine wpAnyH_take (i := 12) (oi := { dst := some 74, op := Op.fieldAddr 34 (Operand.tmp 73) 0, type := 0, pos := "l6_well.go:250", after := #[{ on := 11, ground := Ground.data }, { on := 8, ground := Ground.guard }], guard := some (8, false) }) (v := undef) rfl (by kernel_rfl) (by kernel_rfl) (by kernel_rfl) (fun _ _ _ h => h) (Or.inr ⟨by rfl, rfl⟩) (by assumption) ?_; (try simp only [Act.put, List.setIfInBounds_toArray, List.set_cons_zero, List.set_cons_succ]))
                        (refine wpAnyH_take (i := 13) (oi := { dst := some 75, op := Op.load 3 (Operand.tmp 74), type := 3, pos := "l6_well.go:250", after := #[{ on := 12, ground := Ground.data }, { on := 8, ground := Ground.guard }], guard := some (8, false) }) (v := undef) rfl (by kernel_rfl) (by kernel_rfl) (by kernel_rfl) (fun _ _ _ h => h) (Or.inr ⟨by rfl, rfl⟩) (by assumption) ?_; (try simp only [Act.put, List.setIfInBounds_toArray, List.set_cons_zero, List.set_cons_succ]))
                        (refine wpAnyH_take (i := 14) (oi := { dst := some 76, op := Op.move (Operand.tmp 2), type := 26, pos := "l6_well.go:250", after := #[{ on := 8, ground := Ground.guard }], guard := some (8, false) }) (v := undef) rfl (by kernel_rfl) (by kernel_rfl) (by kernel_rfl) (fun _ _ _ h => h) (Or.inr ⟨by rfl, rfl⟩) (by assumption) ?_; (try simp only [Act.put, List.setIfInBounds_toArray, List.set_cons_zero, List.set_cons_succ]))
                        (refine wpAnyH_take (i := 15) (oi := { dst := some 77, op := Op.move (Operand.tmp 12), type := 3, pos := "l6_well.go:250", after := #[{ on := 8, ground := Ground.guard }], guard := some (8, false) }) (v := undef) rfl (by kernel_rfl) (by kernel_rfl) (by kernel_rfl) (fun _ _ _ h => h) (Or.inr ⟨by rfl, rfl⟩) (by assumption) ?_; (try simp only [Act.put, List.setIfInBounds_toArray, List.set_cons_zero, List.set_cons_succ]))
                        (refine wpAnyH_take (i := 16) (oi := { dst := some 78, op := Op.indexAddr 26 (Operand.tmp 76) (Operand.tmp 77), type := 0, pos := "l6_well.go:250", after := #[{ on := 14, ground := Ground.data }, { on := 15, ground := Ground.data }, { on := 8, ground := Ground.guard }], guard := some (8, false) }) (v := undef) rfl (by kernel_rfl) (by kernel_rfl) (by kernel_rfl) (fun _ _ _ h => h) (Or.inr ⟨by rfl, rfl⟩) (by assumption) ?_; (try simp only [Act.put, List.setIfInBounds_toArray, List.set_cons_zero, List.set_cons_succ]))
                        (refine wpAnyH_take (i := 17) (oi := { dst := some 79, op := Op.fieldAddr 34 (Operand.tmp 78) 0, type := 0, pos := "l6_well.go:250", after := #[{ on := 16, ground := Ground.data }, { on := 8, ground := Ground.guard }], guard := some (8, false) }) (v := undef) rfl (by kernel_rfl) (by kernel_rfl) (by kernel_rfl) (fun _ _ _ h => h) (Or.inr ⟨by rfl, rfl⟩) (by assumption) ?_; (try simp only [Act.put, List.setIfInBounds_toArray, List.set_cons_zero, List.set_cons_succ]))
                        (refine wpAnyH_take (i := 18) (oi := { dst := some 80, op := Op.load 3 (Operand.tmp 79), type := 3, pos := "l6_well.go:250", after := #[{ on := 17, ground := Ground.data }, { on := 8, ground := Ground.guard }], guard := some (8, false) }) (v := undef) rfl (by kernel_rfl) (by kernel_rfl) (by kernel_rfl) (fun _ _ _ h => h) (Or.inr ⟨by rfl, rfl⟩) (by assumption) ?_; (try simp only [Act.put, List.setIfInBounds_toArray, List.set_cons_zero, List.set_cons_succ]))
                        (refine wpAnyH_take (i := 19) (oi := { dst := some 81, op := Op.binOp BinOp.gtr 3 (Operand.tmp 75) (Operand.tmp 80) 3, type := 4, pos := "l6_well.go:250", after := #[{ on := 13, ground := Ground.data }, { on := 18, ground := Ground.data }, { on := 8, ground := Ground.guard }], guard := some (8, false) }) (v := undef) rfl (by kernel_rfl) (by kernel_rfl) (by kernel_rfl) (fun _ _ _ h => h) (Or.inr ⟨by rfl, rfl⟩) (by assumption) ?_; (try simp only [Act.put, List.setIfInBounds_toArray, List.set_cons_zero, List.set_cons_succ]))
                        (refine wpAnyH_take (i := 20) (oi := { dst := some 82, op := Op.pick (Operand.tmp 70) (Operand.const (Value.bool true)) (Operand.tmp 81), type := 4, pos := "l6_well.go:250", after := #[{ on := 8, ground := Ground.data }, { on := 19, ground := Ground.data }, { on := 5, ground := Ground.guard }], guard := some (5, true) }) (v := ?_) rfl (by kernel_rfl) (by kernel_rfl) (by kernel_rfl) (fun _ _ _ h => h) (Or.inl ⟨by rfl, ?_⟩) (by assumption) ?_; rotate_left; (focus (intro w hSw; (try dsimp only at hSw); go_simp; try with_reducible rfl)); (try simp only [Act.put, List.setIfInBounds_toArray, List.set_cons_zero, List.set_cons_succ]))
                        (refine wpAnyH_take (i := 21) (oi := { dst := some 83, op := Op.pick (Operand.tmp 67) (Operand.tmp 82) (Operand.const (Value.bool false)), type := 4, pos := "l6_well.go:250", after := #[{ on := 5, ground := Ground.data }, { on := 20, ground := Ground.data }], guard := none }) (v := ?_) rfl (by kernel_rfl) (by kernel_rfl) (by kernel_rfl) (fun _ _ _ h => h) (Or.inl ⟨by rfl, ?_⟩) (by assumption) ?_; rotate_left; (focus (intro w hSw; (try dsimp only at hSw); go_simp; try with_reducible rfl)); (try simp only [Act.put, List.setIfInBounds_toArray, List.set_cons_zero, List.set_cons_succ]))
                        refine wpAnyH_done (by kernel_rfl) ?_ _
                        (try refine NoPanic.normal ?_)
                        all_goals go_wp2
                        all_goals first | (exfalso; omega) | skip
                        all_goals
                          go_roundw
                          case rel => exact ⟨k + 1, _, rfl, by go_num, by omega, hnx, own_drew hown3, bdrew hbel3⟩
                          case measure => first | (simp [intOf]; done) | (simp [intOf]; omega)
                      · subst hb
                        obtain ⟨a2, hae2, e2, e3⟩ := HCell.out kb (by omega) wr hbel3
                        injection hae2 with hae2
                        subst hae2
                        clear e3
                        have i2 : (0 : Int) ≤ (kb : Int) ∧ (kb : Int) < (n : Int) := by omega
                        by_cases hlt2 : (l.getD kb default).a < (l.getD k default).a
                        · have hnx := Lib.hid (tkBest_more hmax hU hlt2)
                          clear hmax hBst
                          generalize (l.getD k default).a = f at *
                          generalize (l.getD kb default).a = f2 at *
                          go_upto_region 14 with fail
                          refine wp_region_noPanic ?_
                          refine wp_region_held_drew (S := (fun W => W.cell? ⟨g, k, none⟩ = some (.bool false) ∧ W.cell? (a.add (k * 2)) = some (.int .i64 f) ∧ W.cell? (a.add (kb * 2)) = some (.int .i64 f2))) (by kernel_rfl) ?_ (fun hHeld0 => ?_)
                          · (try dsimp only); (first | with_reducible assumption | (simp [go_sem, hu, e0, e2]; done) | go_keep)
                          (refine wpAnyH_take (i := 0) (oi := { dst := some 62, op := Op.move (Operand.tmp 11), type := 32, pos := "l6_well.go:250", after := #[], guard := none }) (v := ?_) rfl (by kernel_rfl) (by kernel_rfl) (by kernel_rfl) (fun _ _ _ h => h) (Or.inl ⟨by rfl, ?_⟩) (by assumption) ?_; rotate_left; (focus (intro w hSw; (try dsimp only at hSw); go_simp; try with_reducible rfl)); (try simp only [Act.put, List.setIfInBounds_toArray, List.set_cons_zero, List.set_cons_succ]))
                          (refine wpAnyH_take (i := 1) (oi := { dst := some 63, op := Op.move (Operand.tmp 13), type := 3, pos := "l6_well.go:250", after := #[], guard := none }) (v := ?_) rfl (by kernel_rfl) (by kernel_rfl) (by kernel_rfl) (fun _ _ _ h => h) (Or.inl ⟨by rfl, ?_⟩) (by assumption) ?_; rotate_left; (focus (intro w hSw; (try dsimp only at hSw); go_simp; try with_reducible rfl)); (try simp only [Act.put, List.setIfInBounds_toArray, List.set_cons_zero, List.set_cons_succ]))
                          (refine wpAnyH_take (i := 2) (oi := { dst := some 64, op := Op.indexAddr 32 (Operand.tmp 62) (Operand.tmp 63), type := 0, pos := "l6_well.go:250", after := #[{ on := 0, ground := Ground.data }, { on := 1, ground := Ground.data }], guard := none }) (v := ?_) rfl (by kernel_rfl) (by kernel_rfl) (by kernel_rfl) (fun _ _ _ h => h) (Or.inl ⟨by rfl, ?_⟩) (by assumption) ?_; rotate_left; (focus (intro w hSw; (try dsimp only at hSw); go_simp; try with_reducible rfl)); (try simp only [Act.put, List.setIfInBounds_toArray, List.set_cons_zero, List.set_cons_succ]))
                          (refine wpAnyH_take (i := 3) (oi := { dst := some 65, op := Op.load 4 (Operand.tmp 64), type := 4, pos := "l6_well.go:250", after := #[{ on := 2, ground := Ground.data }], guard := none }) (v := ?_) rfl (by kernel_rfl) (by kernel_rfl) (by kernel_rfl) (fun _ _ _ h => h) (Or.inl ⟨by rfl, ?_⟩) (by assumption) ?_; rotate_left; (focus (intro w hSw; (try dsimp only at hSw); go_simp; try with_reducible rfl)); (try simp only [Act.put, List.setIfInBounds_toArray, List.set_cons_zero, List.set_cons_succ]))
                          (refine wpAnyH_take (i := 4) (oi := { dst := some 66, op := Op.unOp UnOp.not 4 (Operand.tmp 65), type := 4, pos := "l6_well.go:250", after := #[{ on := 3, ground := Ground.data }], guard := none }) (v := ?_) rfl (by kernel_rfl) (by kernel_rfl) (by kernel_rfl) (fun _ _ _ h => h) (Or.inl ⟨by rfl, ?_⟩) (by assumption) ?_; rotate_left; (focus (intro w hSw; (try dsimp only at hSw); go_simp; try with_reducible rfl)); (try simp only [Act.put, List.setIfInBounds_toArray, List.set_cons_zero, List.set_cons_succ]))
                          (refine wpAnyH_take (i := 5) (oi := { dst := some 67, op := Op.move (Operand.tmp 66), type := 4, pos := "l6_well.go:250", after := #[{ on := 4, ground := Ground.data }], guard := none }) (v := ?_) rfl (by kernel_rfl) (by kernel_rfl) (by kernel_rfl) (fun _ _ _ h => h) (Or.inl ⟨by rfl, ?_⟩) (by assumption) ?_; rotate_left; (focus (intro w hSw; (try dsimp only at hSw); go_simp; try with_reducible rfl)); (try simp only [Act.put, List.setIfInBounds_toArray, List.set_cons_zero, List.set_cons_succ]))
                          (refine wpAnyH_take (i := 6) (oi := { dst := some 68, op := Op.move (Operand.tmp 12), type := 3, pos := "l6_well.go:250", after := #[{ on := 5, ground := Ground.guard }], guard := some (5, true) }) (v := ?_) rfl (by kernel_rfl) (by kernel_rfl) (by kernel_rfl) (fun _ _ _ h => h) (Or.inl ⟨by rfl, ?_⟩) (by assumption) ?_; rotate_left; (focus (intro w hSw; (try dsimp only at hSw); go_simp; try with_reducible rfl)); (try simp only [Act.put, List.setIfInBounds_toArray, List.set_cons_zero, List.set_cons_succ]))
                          (refine wpAnyH_take (i := 7) (oi := { dst := some 69, op := Op.binOp BinOp.lss 3 (Operand.tmp 68) (Operand.const (Value.int IntKind.i64 0)) 3, type := 4, pos := "l6_well.go:250", after := #[{ on := 6, ground := Ground.data }, { on := 5, ground := Ground.guard }], guard := some (5, true) }) (v := (.bool false)) rfl (by kernel_rfl) (by kernel_rfl) (by kernel_rfl) (fun _ _ _ h => h) (Or.inl ⟨by rfl, ?_⟩) (by assumption) ?_; (focus (intro w hSw; (try dsimp only at hSw); go_simp; first | done | simp)); (try simp only [Act.put, List.setIfInBounds_toArray, List.set_cons_zero, List.set_cons_succ]))
                          (refine wpAnyH_take (i := 8) (oi := { dst := some 70, op := Op.move (Operand.tmp 69), type := 4, pos := "l6_well.go:250", after := #[{ on := 7, ground := Ground.data }, { on := 5, ground := Ground.chain }, { on := 5, ground := Ground.guard }], guard := some (5, true) }) (v := ?_) rfl (by kernel_rfl) (by kernel_rfl) (by kernel_rfl) (fun _ _ _ h => h) (Or.inl ⟨by rfl, ?_⟩) (by assumption) ?_; rotate_left; (focus (intro w hSw; (try dsimp only at hSw); go_simp; try with_reducible rfl)); (try simp only [Act.put, List.setIfInBounds_toArray, List.set_cons_zero, List.set_cons_succ]))
                          (refine wpAnyH_take (i := 9) (oi := { dst := some 71, op := Op.move (Operand.tmp 2), type := 26, pos := "l6_well.go:250", after := #[{ on := 8, ground := Ground.guard }], guard := some (8, false) }) (v := ?_) rfl (by kernel_rfl) (by kernel_rfl) (by kernel_rfl) (fun _ _ _ h => h) (Or.inl ⟨by rfl, ?_⟩) (by assumption) ?_; rotate_left; (focus (intro w hSw; (try dsimp only at hSw); go_simp; try with_reducible rfl)); (try simp only [Act.put, List.setIfInBounds_toArray, List.set_cons_zero, List.set_cons_succ]))
                          (refine wpAnyH_take (i := 10) (oi := { dst := some 72, op := Op.move (Operand.tmp 13), type := 3, pos := "l6_well.go:250", after := #[{ on := 8, ground := Ground.guard }], guard := some (8, false) }) (v := ?_) rfl (by kernel_rfl) (by kernel_rfl) (by kernel_rfl) (fun _ _ _ h => h) (Or.inl ⟨by rfl, ?_⟩) (by assumption) ?_; rotate_left; (focus (intro w hSw; (try dsimp only at hSw); go_simp; try with_reducible rfl)); (try simp only [Act.put, List.setIfInBounds_toArray, List.set_cons_zero, List.set_cons_succ]))
                          (refine wpAnyH_take (i := 11) (oi := { dst := some 73, op := Op.indexAddr 26 (Operand.tmp 71) (Operand.tmp 72), type := 0, pos := "l6_well.go:250", after := #[{ on := 9, ground := Ground.data }, { on := 10, ground := Ground.data }, { on := 8, ground := Ground.guard }], guard := some (8, false) }) (v := ?_) rfl (by kernel_rfl) (by kernel_rfl) (by kernel_rfl) (fun _ _ _ h => h) (Or.inl ⟨by rfl, ?_⟩) (by assumption) ?_; rotate_left; (focus (intro w hSw; (try dsimp only at hSw); go_simp; try with_reducible rfl)); (try simp only [Act.put, List.setIfInBounds_toArray, List.set_cons_zero, List.set_cons_succ]))
                          (refine wpAnyH_take (i := 12) (oi := { dst := some 74, op := Op.fieldAddr 34 (Operand.tmp 73) 0, type := 0, pos := "l6_well.go:250", after := #[{ on := 11, ground := Ground.data }, { on := 8, ground := Ground.guard }], guard := some (8, false) }) (v := ?_) rfl (by kernel_rfl) (by kernel_rfl) (by kernel_rfl) (fun _ _ _ h => h) (Or.inl ⟨by rfl, ?_⟩) (by assumption) ?_; rotate_left; (focus (intro w hSw; (try dsimp only at hSw); go_simp; try with_reducible rfl)); (try simp only [Act.put, List.setIfInBounds_toArray, List.set_cons_zero, List.set_cons_succ]))
                          (refine wpAnyH_take (i := 13) (oi := { dst := some 75, op := Op.load 3 (Operand.tmp 74), type := 3, pos := "l6_well.go:250", after := #[{ on := 12, ground := Ground.data }, { on := 8, ground := Ground.guard }], guard := some (8, false) }) (v := ?_) rfl (by kernel_rfl) (by kernel_rfl) (by kernel_rfl) (fun _ _ _ h => h) (Or.inl ⟨by rfl, ?_⟩) (by assumption) ?_; rotate_left; (focus (intro w hSw; (try dsimp only at hSw); go_simp; try with_reducible rfl)); (try simp only [Act.put, List.setIfInBounds_toArray, List.set_cons_zero, List.set_cons_succ]))
                          (refine wpAnyH_take (i := 14) (oi := { dst := some 76, op := Op.move (Operand.tmp 2), type := 26, pos := "l6_well.go:250", after := #[{ on := 8, ground := Ground.guard }], guard := some (8, false) }) (v := ?_) rfl (by kernel_rfl) (by kernel_rfl) (by kernel_rfl) (fun _ _ _ h => h) (Or.inl ⟨by rfl, ?_⟩) (by assumption) ?_; rotate_left; (focus (intro w hSw; (try dsimp only at hSw); go_simp; try with_reducible rfl)); (try simp only [Act.put, List.setIfInBounds_toArray, List.set_cons_zero, List.set_cons_succ]))
                          (refine wpAnyH_take (i := 15) (oi := { dst := some 77, op := Op.move (Operand.tmp 12), type := 3, pos := "l6_well.go:250", after := #[{ on := 8, ground := Ground.guard }], guard := some (8, false) }) (v := ?_) rfl (by kernel_rfl) (by kernel_rfl) (by kernel_rfl) (fun _ _ _ h => h) (Or.inl ⟨by rfl, ?_⟩) (by assumption) ?_; rotate_left; (focus (intro w hSw; (try dsimp only at hSw); go_simp; try with_reducible rfl)); (try simp only [Act.put, List.setIfInBounds_toArray, List.set_cons_zero, List.set_cons_succ]))
                          (refine wpAnyH_take (i := 16) (oi := { dst := some 78, op := Op.indexAddr 26 (Operand.tmp 76) (Operand.tmp 77), type := 0, pos := "l6_well.go:250", after := #[{ on := 14, ground := Ground.data }, { on := 15, ground := Ground.data }, { on := 8, ground := Ground.guard }], guard := some (8, false) }) (v := ?_) rfl (by kernel_rfl) (by kernel_rfl) (by kernel_rfl) (fun _ _ _ h => h) (Or.inl ⟨by rfl, ?_⟩) (by assumption) ?_; rotate_left; (focus (intro w hSw; (try dsimp only at hSw); go_simp; try with_reducible rfl)); (try simp only [Act.put, List.setIfInBounds_toArray, List.set_cons_zero, List.set_cons_succ]))
                          (refine wpAnyH_take (i := 17) (oi := { dst := some 79, op := Op.fieldAddr 34 (Operand.tmp 78) 0, type := 0, pos := "l6_well.go:250", after := #[{ on := 16, ground := Ground.data }, { on := 8, ground := Ground.guard }], guard := some (8, false) }) (v := ?_) rfl (by kernel_rfl) (by kernel_rfl) (by kernel_rfl) (fun _ _ _ h => h) (Or.inl ⟨by rfl, ?_⟩) (by assumption) ?_; rotate_left; (focus (intro w hSw; (try dsimp only at hSw); go_simp; try with_reducible rfl)); (try simp only [Act.put, List.setIfInBounds_toArray, List.set_cons_zero, List.set_cons_succ]))
                          (refine wpAnyH_take (i := 18) (oi := { dst := some 80, op := Op.load 3 (Operand.tmp 79), type := 3, pos := "l6_well.go:250", after := #[{ on := 17, ground := Ground.data }, { on := 8, ground := Ground.guard }], guard := some (8, false) }) (v := ?_) rfl (by kernel_rfl) (by kernel_rfl) (by kernel_rfl) (fun _ _ _ h => h) (Or.inl ⟨by rfl, ?_⟩) (by assumption) ?_; rotate_left; (focus (intro w hSw; (try dsimp only at hSw); go_simp; try with_reducible rfl)); (try simp only [Act.put, List.setIfInBounds_toArray, List.set_cons_zero, List.set_cons_succ]))
                          (refine wpAnyH_take (i := 19) (oi := { dst := some 81, op := Op.binOp BinOp.gtr 3 (Operand.tmp 75) (Operand.tmp 80) 3, type := 4, pos := "l6_well.go:250", after := #[{ on := 13, ground := Ground.data }, { on := 18, ground := Ground.data }, { on := 8, ground := Ground.guard }], guard := some (8, false) }) (v := ?_) rfl (by kernel_rfl) (by kernel_rfl) (by kernel_rfl) (fun _ _ _ h => h) (Or.inl ⟨by rfl, ?_⟩) (by assumption) ?_; rotate_left; (focus (intro w hSw; (try dsimp only at hSw); go_simp; try with_reducible rfl)); (try simp only [Act.put, List.setIfInBounds_toArray, List.set_cons_zero, List.set_cons_succ]))
                          (refine wpAnyH_take (i := 20) (oi := { dst := some 82, op := Op.pick (Operand.tmp 70) (Operand.const (Value.bool true)) (Operand.tmp 81), type := 4, pos := "l6_well.go:250", after := #[{ on := 8, ground := Ground.data }, { on := 19, ground := Ground.data }, { on := 5, ground := Ground.guard }], guard := some (5, true) }) (v := ?_) rfl (by kernel_rfl) (by kernel_rfl) (by kernel_rfl) (fun _ _ _ h => h) (Or.inl ⟨by rfl, ?_⟩) (by assumption) ?_; rotate_left; (focus (intro w hSw; (try dsimp only at hSw); go_simp; try with_reducible rfl)); (try simp only [Act.put, List.setIfInBounds_toArray, List.set_cons_zero, List.set_cons_succ]))
                          (refine wpAnyH_take (i := 21) (oi := { dst := some 83, op := Op.pick (Operand.tmp 67) (Operand.tmp 82) (Operand.const (Value.bool false)), type := 4, pos := "l6_well.go:250", after := #[{ on := 5, ground := Ground.data }, { on := 20, ground := Ground.data }], guard := none }) (v := ?_) rfl (by kernel_rfl) (by kernel_rfl) (by kernel_rfl) (fun _ _ _ h => h) (Or.inl ⟨by rfl, ?_⟩) (by assumption) ?_; rotate_left; (focus (intro w hSw; (try dsimp only at hSw); go_simp; try with_reducible rfl)); (try simp only [Act.put, List.setIfInBounds_toArray, List.set_cons_zero, List.set_cons_succ]))
                          refine wpAnyH_done (by kernel_rfl) ?_ _
                          (try refine NoPanic.normal ?_)
                          all_goals go_wp2
                          all_goals first | (exfalso; omega) | skip
                          all_goals
                            go_roundw
                            case rel => exact ⟨k + 1, _, rfl, by go_num, by omega, hnx, own_drew hown3, bdrew hbel3⟩
                            case measure => first | (simp [intOf]; done) | (simp [intOf]; omega)
                        · have hnx := Lib.hid (tkBest_less hkb hUb hmax (by omega))
                          clear hmax hBst
                          generalize (l.getD k default).a = f at *
                          generalize (l.getD kb default).a = f2 at *
                          have hlt3 : ¬ (f2 < f) := hlt2
                          go_upto_region 14 with fail
                          refine wp_region_noPanic ?_
                          refine wp_region_held_drew (S := (fun W => W.cell? ⟨g, k, none⟩ = some (.bool false) ∧ W.cell? (a.add (k * 2)) = some (.int .i64 f) ∧ W.cell? (a.add (kb * 2)) = some (.int .i64 f2))) (by kernel_rfl) ?_ (fun hHeld0 => ?_)
                          · (try dsimp only); (first | with_reducible assumption | (simp [go_sem, hu, e0, e2]; done) | go_keep)
                          (refine wpAnyH_take (i := 0) (oi := { dst := some 62, op := Op.move (Operand.tmp 11), type := 32, pos := "l6_well.go:250", after := #[], guard := none }) (v := ?_) rfl (by kernel_rfl) (by kernel_rfl) (by kernel_rfl) (fun _ _ _ h => h) (Or.inl ⟨by rfl, ?_⟩) (by assumption) ?_; rotate_left; (focus (intro w hSw; (try dsimp only at hSw); go_simp; try with_reducible rfl)); (try simp only [Act.put, List.setIfInBounds_toArray, List.set_cons_zero, List.set_cons_succ]))
                          (refine wpAnyH_take (i := 1) (oi := { dst := some 63, op := Op.move (Operand.tmp 13), type := 3, pos := "l6_well.go:250", after := #[], guard := none }) (v := ?_) rfl (by kernel_rfl) (by kernel_rfl) (by kernel_rfl) (fun _ _ _ h => h) (Or.inl ⟨by rfl, ?_⟩) (by assumption) ?_; rotate_left; (focus (intro w hSw; (try dsimp only at hSw); go_simp; try with_reducible rfl)); (try simp only [Act.put, List.setIfInBounds_toArray, List.set_cons_zero, List.set_cons_succ]))
                          (refine wpAnyH_take (i := 2) (oi := { dst := some 64, op := Op.indexAddr 32 (Operand.tmp 62) (Operand.tmp 63), type := 0, pos := "l6_well.go:250", after := #[{ on := 0, ground := Ground.data }, { on := 1, ground := Ground.data }], guard := none }) (v := ?_) rfl (by kernel_rfl) (by kernel_rfl) (by kernel_rfl) (fun _ _ _ h => h) (Or.inl ⟨by rfl, ?_⟩) (by assumption) ?_; rotate_left; (focus (intro w hSw; (try dsimp only at hSw); go_simp; try with_reducible rfl)); (try simp only [Act.put, List.setIfInBounds_toArray, List.set_cons_zero, List.set_cons_succ]))
                          (refine wpAnyH_take (i := 3) (oi := { dst := some 65, op := Op.load 4 (Operand.tmp 64), type := 4, pos := "l6_well.go:250", after := #[{ on := 2, ground := Ground.data }], guard := none }) (v := ?_) rfl (by kernel_rfl) (by kernel_rfl) (by kernel_rfl) (fun _ _ _ h => h) (Or.inl ⟨by rfl, ?_⟩) (by assumption) ?_; rotate_left; (focus (intro w hSw; (try dsimp only at hSw); go_simp; try with_reducible rfl)); (try simp only [Act.put, List.setIfInBounds_toArray, List.set_cons_zero, List.set_cons_succ]))
                          (refine wpAnyH_take (i := 4) (oi := { dst := some 66, op := Op.unOp UnOp.not 4 (Operand.tmp 65), type := 4, pos := "l6_well.go:250", after := #[{ on := 3, ground := Ground.data }], guard := none }) (v := ?_) rfl (by kernel_rfl) (by kernel_rfl) (by kernel_rfl) (fun _ _ _ h => h) (Or.inl ⟨by rfl, ?_⟩) (by assumption) ?_; rotate_left; (focus (intro w hSw; (try dsimp only at hSw); go_simp; try with_reducible rfl)); (try simp only [Act.put, List.setIfInBounds_toArray, List.set_cons_zero, List.set_cons_succ]))
                          (refine wpAnyH_take (i := 5) (oi := { dst := some 67, op := Op.move (Operand.tmp 66), type := 4, pos := "l6_well.go:250", after := #[{ on := 4, ground := Ground.data }], guard := none }) (v := ?_) rfl (by kernel_rfl) (by kernel_rfl) (by kernel_rfl) (fun _ _ _ h => h) (Or.inl ⟨by rfl, ?_⟩) (by assumption) ?_; rotate_left; (focus (intro w hSw; (try dsimp only at hSw); go_simp; try with_reducible rfl)); (try simp only [Act.put, List.setIfInBounds_toArray, List.set_cons_zero, List.set_cons_succ]))
                          (refine wpAnyH_take (i := 6) (oi := { dst := some 68, op := Op.move (Operand.tmp 12), type := 3, pos := "l6_well.go:250", after := #[{ on := 5, ground := Ground.guard }], guard := some (5, true) }) (v := ?_) rfl (by kernel_rfl) (by kernel_rfl) (by kernel_rfl) (fun _ _ _ h => h) (Or.inl ⟨by rfl, ?_⟩) (by assumption) ?_; rotate_left; (focus (intro w hSw; (try dsimp only at hSw); go_simp; try with_reducible rfl)); (try simp only [Act.put, List.setIfInBounds_toArray, List.set_cons_zero, List.set_cons_succ]))
                          (refine wpAnyH_take (i := 7) (oi := { dst := some 69, op := Op.binOp BinOp.lss 3 (Operand.tmp 68) (Operand.const (Value.int IntKind.i64 0)) 3, type := 4, pos := "l6_well.go:250", after := #[{ on := 6, ground := Ground.data }, { on := 5, ground := Ground.guard }], guard := some (5, true) }) (v := (.bool false)) rfl (by kernel_rfl) (by kernel_rfl) (by kernel_rfl) (fun _ _ _ h => h) (Or.inl ⟨by rfl, ?_⟩) (by assumption) ?_; (focus (intro w hSw; (try dsimp only at hSw); go_simp; first | done | simp)); (try simp only [Act.put, List.setIfInBounds_toArray, List.set_cons_zero, List.set_cons_succ]))
                          (refine wpAnyH_take (i := 8) (oi := { dst := some 70, op := Op.move (Operand.tmp 69), type := 4, pos := "l6_well.go:250", after := #[{ on := 7, ground := Ground.data }, { on := 5, ground := Ground.chain }, { on := 5, ground := Ground.guard }], guard := some (5, true) }) (v := ?_) rfl (by kernel_rfl) (by kernel_rfl) (by kernel_rfl) (fun _ _ _ h => h) (Or.inl ⟨by rfl, ?_⟩) (by assumption) ?_; rotate_left; (focus (intro w hSw; (try dsimp only at hSw); go_simp; try with_reducible rfl)); (try simp only [Act.put, List.setIfInBounds_toArray, List.set_cons_zero, List.set_cons_succ]))
                          (refine wpAnyH_take (i := 9) (oi := { dst := some 71, op := Op.move (Operand.tmp 2), type := 26, pos := "l6_well.go:250", after := #[{ on := 8, ground := Ground.guard }], guard := some (8, false) }) (v := ?_) rfl (by kernel_rfl) (by kernel_rfl) (by kernel_rfl) (fun _ _ _ h => h) (Or.inl ⟨by rfl, ?_⟩) (by assumption) ?_; rotate_left; (focus (intro w hSw; (try dsimp only at hSw); go_simp; try with_reducible rfl)); (try simp only [Act.put, List.setIfInBounds_toArray, List.set_cons_zero, List.set_cons_succ]))
                          (refine wpAnyH_take (i := 10) (oi := { dst := some 72, op := Op.move (Operand.tmp 13), type := 3, pos := "l6_well.go:250", after := #[{ on := 8, ground := Ground.guard }], guard := some (8, false) }) (v := ?_) rfl (by kernel_rfl) (by kernel_rfl) (by kernel_rfl) (fun _ _ _ h => h) (Or.inl ⟨by rfl, ?_⟩) (by assumption) ?_; rotate_left; (focus (intro w hSw; (try dsimp only at hSw); go_simp; try with_reducible rfl)); (try simp only [Act.put, List.setIfInBounds_toArray, List.set_cons_zero, List.set_cons_succ]))
                          (refine wpAnyH_take (i := 11) (oi := { dst := some 73, op := Op.indexAddr 26 (Operand.tmp 71) (Operand.tmp 72), type := 0, pos := "l6_well.go:250", after := #[{ on := 9, ground := Ground.data }, { on := 10, ground := Ground.data }, { on := 8, ground := Ground.guard }], guard := some (8, false) }) (v := ?_) rfl (by kernel_rfl) (by kernel_rfl) (by kernel_rfl) (fun _ _ _ h => h) (Or.inl ⟨by rfl, ?_⟩) (by assumption) ?_; rotate_left; (focus (intro w hSw; (try dsimp only at hSw); go_simp; try with_reducible rfl)); (try simp only [Act.put, List.setIfInBounds_toArray, List.set_cons_zero, List.set_cons_succ]))
                          (refine wpAnyH_take (i := 12) (oi := { dst := some 74, op := Op.fieldAddr 34 (Operand.tmp 73) 0, type := 0, pos := "l6_well.go:250", after := #[{ on := 11, ground := Ground.data }, { on := 8, ground := Ground.guard }], guard := some (8, false) }) (v := ?_) rfl (by kernel_rfl) (by kernel_rfl) (by kernel_rfl) (fun _ _ _ h => h) (Or.inl ⟨by rfl, ?_⟩) (by assumption) ?_; rotate_left; (focus (intro w hSw; (try dsimp only at hSw); go_simp; try with_reducible rfl)); (try simp only [Act.put, List.setIfInBounds_toArray, List.set_cons_zero, List.set_cons_succ]))
                          (refine wpAnyH_take (i := 13) (oi := { dst := some 75, op := Op.load 3 (Operand.tmp 74), type := 3, pos := "l6_well.go:250", after := #[{ on := 12, ground := Ground.data }, { on := 8, ground := Ground.guard }], guard := some (8, false) }) (v := ?_) rfl (by kernel_rfl) (by kernel_rfl) (by kernel_rfl) (fun _ _ _ h => h) (Or.inl ⟨by rfl, ?_⟩) (by assumption) ?_; rotate_left; (focus (intro w hSw; (try dsimp only at hSw); go_simp; try with_reducible rfl)); (try simp only [Act.put, List.setIfInBounds_toArray, List.set_cons_zero, List.set_cons_succ]))
                          (refine wpAnyH_take (i := 14) (oi := { dst := some 76, op := Op.move (Operand.tmp 2), type := 26, pos := "l6_well.go:250", after := #[{ on := 8, ground := Ground.guard }], guard := some (8, false) }) (v := ?_) rfl (by kernel_rfl) (by kernel_rfl) (by kernel_rfl) (fun _ _ _ h => h) (Or.inl ⟨by rfl, ?_⟩) (by assumption) ?_; rotate_left; (focus (intro w hSw; (try dsimp only at hSw); go_simp; try with_reducible rfl)); (try simp only [Act.put, List.setIfInBounds_toArray, List.set_cons_zero, List.set_cons_succ]))
                          (refine wpAnyH_take (i := 15) (oi := { dst := some 77, op := Op.move (Operand.tmp 12), type := 3, pos := "l6_well.go:250", after := #[{ on := 8, ground := Ground.guard }], guard := some (8, false) }) (v := ?_) rfl (by kernel_rfl) (by kernel_rfl) (by kernel_rfl) (fun _ _ _ h => h) (Or.inl ⟨by rfl, ?_⟩) (by assumption) ?_; rotate_left; (focus (intro w hSw; (try dsimp only at hSw); go_simp; try with_reducible rfl)); (try simp only [Act.put, List.setIfInBounds_toArray, List.set_cons_zero, List.set_cons_succ]))
                          (refine wpAnyH_take (i := 16) (oi := { dst := some 78, op := Op.indexAddr 26 (Operand.tmp 76) (Operand.tmp 77), type := 0, pos := "l6_well.go:250", after := #[{ on := 14, ground := Ground.data }, { on := 15, ground := Ground.data }, { on := 8, ground := Ground.guard }], guard := some (8, false) }) (v := ?_) rfl (by kernel_rfl) (by kernel_rfl) (by kernel_rfl) (fun _ _ _ h => h) (Or.inl ⟨by rfl, ?_⟩) (by assumption) ?_; rotate_left; (focus (intro w hSw; (try dsimp only at hSw); go_simp; try with_reducible rfl)); (try simp only [Act.put, List.setIfInBounds_toArray, List.set_cons_zero, List.set_cons_succ]))
                          (refine wpAnyH_take (i := 17) (oi := { dst := some 79, op := Op.fieldAddr 34 (Operand.tmp 78) 0, type := 0, pos := "l6_well.go:250", after := #[{ on := 16, ground := Ground.data }, { on := 8, ground := Ground.guard }], guard := some (8, false) }) (v := ?_) rfl (by kernel_rfl) (by kernel_rfl) (by kernel_rfl) (fun _ _ _ h => h) (Or.inl ⟨by rfl, ?_⟩) (by assumption) ?_; rotate_left; (focus (intro w hSw; (try dsimp only at hSw); go_simp; try with_reducible rfl)); (try simp only [Act.put, List.setIfInBounds_toArray, List.set_cons_zero, List.set_cons_succ]))
                          (refine wpAnyH_take (i := 18) (oi := { dst := some 80, op := Op.load 3 (Operand.tmp 79), type := 3, pos := "l6_well.go:250", after := #[{ on := 17, ground := Ground.data }, { on := 8, ground := Ground.guard }], guard := some (8, false) }) (v := ?_) rfl (by kernel_rfl) (by kernel_rfl) (by kernel_rfl) (fun _ _ _ h => h) (Or.inl ⟨by rfl, ?_⟩) (by assumption) ?_; rotate_left; (focus (intro w hSw; (try dsimp only at hSw); go_simp; try with_reducible rfl)); (try simp only [Act.put, List.setIfInBounds_toArray, List.set_cons_zero, List.set_cons_succ]))
                          (refine wpAnyH_take (i := 19) (oi := { dst := some 81, op := Op.binOp BinOp.gtr 3 (Operand.tmp 75) (Operand.tmp 80) 3, type := 4, pos := "l6_well.go:250", after := #[{ on := 13, ground := Ground.data }, { on := 18, ground := Ground.data }, { on := 8, ground := Ground.guard }], guard := some (8, false) }) (v := ?_) rfl (by kernel_rfl) (by kernel_rfl) (by kernel_rfl) (fun _ _ _ h => h) (Or.inl ⟨by rfl, ?_⟩) (by assumption) ?_; rotate_left; (focus (intro w hSw; (try dsimp only at hSw); go_simp; try with_reducible rfl)); (try simp only [Act.put, List.setIfInBounds_toArray, List.set_cons_zero, List.set_cons_succ]))
                          (refine wpAnyH_take (i := 20) (oi := { dst := some 82, op := Op.pick (Operand.tmp 70) (Operand.const (Value.bool true)) (Operand.tmp 81), type := 4, pos := "l6_well.go:250", after := #[{ on := 8, ground := Ground.data }, { on := 19, ground := Ground.data }, { on := 5, ground := Ground.guard }], guard := some (5, true) }) (v := ?_) rfl (by kernel_rfl) (by kernel_rfl) (by kernel_rfl) (fun _ _ _ h => h) (Or.inl ⟨by rfl, ?_⟩) (by assumption) ?_; rotate_left; (focus (intro w hSw; (try dsimp only at hSw); go_simp; try with_reducible rfl)); (try simp only [Act.put, List.setIfInBounds_toArray, List.set_cons_zero, List.set_cons_succ]))
                          (refine wpAnyH_take (i := 21) (oi := { dst := some 83, op := Op.pick (Operand.tmp 67) (Operand.tmp 82) (Operand.const (Value.bool false)), type := 4, pos := "l6_well.go:250", after := #[{ on := 5, ground := Ground.data }, { on := 20, ground := Ground.data }], guard := none }) (v := ?_) rfl (by kernel_rfl) (by kernel_rfl) (by kernel_rfl) (fun _ _ _ h => h) (Or.inl ⟨by rfl, ?_⟩) (by assumption) ?_; rotate_left; (focus (intro w hSw; (try dsimp only at hSw); go_simp; try with_reducible rfl)); (try simp only [Act.put, List.setIfInBounds_toArray, List.set_cons_zero, List.set_cons_succ]))
                          refine wpAnyH_done (by kernel_rfl) ?_ _
                          (try refine NoPanic.normal ?_)
                          all_goals go_wp2
                          all_goals first | (exfalso; omega) | skip
                          all_goals
                            go_roundw
                            case rel => exact ⟨k + 1, _, rfl, by go_num, by omega, hnx, own_drew hown3, bdrew hbel3⟩
                            case measure => first | (simp [intOf]; done) | (simp [intOf]; omega)
                    · rw [hU] at hu
                      have hnx := Lib.hid (tkBest_used hBst.out hU)
                      clear hBst
                      go_upto_region 14 with fail
                      refine wp_region_noPanic ?_
                      refine wp_region_held_drew (S := (fun W => W.cell? ⟨g, k, none⟩ = some (.bool true))) (by kernel_rfl) ?_ (fun hHeld0 => ?_)
                      · (try dsimp only); (first | with_reducible assumption | (simp [go_sem, hu]; done) | go_keep)
                      (refine wpAnyH_take (i := 0) (oi := { dst := some 62, op := Op.move (Operand.tmp 11), type := 32, pos := "l6_well.go:250", after := #[], guard := none }) (v := ?_) rfl (by kernel_rfl) (by kernel_rfl) (by kernel_rfl) (fun _ _ _ h => h) (Or.inl ⟨by rfl, ?_⟩) (by assumption) ?_; rotate_left; (focus (intro w hSw; (try dsimp only at hSw); go_simp; try with_reducible rfl)); (try simp only [Act.put, List.setIfInBounds_toArray, List.set_cons_zero, List.set_cons_succ]))
                      (refine wpAnyH_take (i := 1) (oi := { dst := some 63, op := Op.move (Operand.tmp 13), type := 3, pos := "l6_well.go:250", after := #[], guard := none }) (v := ?_) rfl (by kernel_rfl) (by kernel_rfl) (by kernel_rfl) (fun _ _ _ h => h) (Or.inl ⟨by rfl, ?_⟩) (by assumption) ?_; rotate_left; (focus (intro w hSw; (try dsimp only at hSw); go_simp; try with_reducible rfl)); (try simp only [Act.put, List.setIfInBounds_toArray, List.set_cons_zero, List.set_cons_succ]))
                      (refine wpAnyH_take (i := 2) (oi := { dst := some 64, op := Op.indexAddr 32 (Operand.tmp 62) (Operand.tmp 63), type := 0, pos := "l6_well.go:250", after := #[{ on := 0, ground := Ground.data }, { on := 1, ground := Ground.data }], guard := none }) (v := ?_) rfl (by kernel_rfl) (by kernel_rfl) (by kernel_rfl) (fun _ _ _ h => h) (Or.inl ⟨by rfl, ?_⟩) (by assumption) ?_; rotate_left; (focus (intro w hSw; (try dsimp only at hSw); go_simp; try with_reducible rfl)); (try simp only [Act.put, List.setIfInBounds_toArray, List.set_cons_zero, List.set_cons_succ]))
                      (refine wpAnyH_take (i := 3) (oi := { dst := some 65, op := Op.load 4 (Operand.tmp 64), type := 4, pos := "l6_well.go:250", after := #[{ on := 2, ground := Ground.data }], guard := none }) (v := ?_) rfl (by kernel_rfl) (by kernel_rfl) (by kernel_rfl) (fun _ _ _ h => h) (Or.inl ⟨by rfl, ?_⟩) (by assumption) ?_; rotate_left; (focus (intro w hSw; (try dsimp only at hSw); go_simp; try with_reducible rfl)); (try simp only [Act.put, List.setIfInBounds_toArray, List.set_cons_zero, List.set_cons_succ]))
                      (refine wpAnyH_take (i := 4) (oi := { dst := some 66, op := Op.unOp UnOp.not 4 (Operand.tmp 65), type := 4, pos := "l6_well.go:250", after := #[{ on := 3, ground := Ground.data }], guard := none }) (v := ?_) rfl (by kernel_rfl) (by kernel_rfl) (by kernel_rfl) (fun _ _ _ h => h) (Or.inl ⟨by rfl, ?_⟩) (by assumption) ?_; rotate_left; (focus (intro w hSw; (try dsimp only at hSw); go_simp; try with_reducible rfl)); (try simp only [Act.put, List.setIfInBounds_toArray, List.set_cons_zero, List.set_cons_succ]))
                      (refine wpAnyH_take (i := 5) (oi := { dst := some 67, op := Op.move (Operand.tmp 66), type := 4, pos := "l6_well.go:250", after := #[{ on := 4, ground := Ground.data }], guard := none }) (v := ?_) rfl (by kernel_rfl) (by kernel_rfl) (by kernel_rfl) (fun _ _ _ h => h) (Or.inl ⟨by rfl, ?_⟩) (by assumption) ?_; rotate_left; (focus (intro w hSw; (try dsimp only at hSw); go_simp; try with_reducible rfl)); (try simp only [Act.put, List.setIfInBounds_toArray, List.set_cons_zero, List.set_cons_succ]))
                      (refine wpAnyH_take (i := 6) (oi := { dst := some 68, op := Op.move (Operand.tmp 12), type := 3, pos := "l6_well.go:250", after := #[{ on := 5, ground := Ground.guard }], guard := some (5, true) }) (v := undef) rfl (by kernel_rfl) (by kernel_rfl) (by kernel_rfl) (fun _ _ _ h => h) (Or.inr ⟨by rfl, rfl⟩) (by assumption) ?_; (try simp only [Act.put, List.setIfInBounds_toArray, List.set_cons_zero, List.set_cons_succ]))
                      (refine wpAnyH_take (i := 7) (oi := { dst := some 69, op := Op.binOp BinOp.lss 3 (Operand.tmp 68) (Operand.const (Value.int IntKind.i64 0)) 3, type := 4, pos := "l6_well.go:250", after := #[{ on := 6, ground := Ground.data }, { on := 5, ground := Ground.guard }], guard := some (5, true) }) (v := undef) rfl (by kernel_rfl) (by kernel_rfl) (by kernel_rfl) (fun _ _ _ h => h) (Or.inr ⟨by rfl, rfl⟩) (by assumption) ?_; (try simp only [Act.put, List.setIfInBounds_toArray, List.set_cons_zero, List.set_cons_succ]))
                      (refine wpAnyH_take (i := 8) (oi := { dst := some 70, op := Op.move (Operand.tmp 69), type := 4, pos := "l6_well.go:250", after := #[{ on := 7, ground := Ground.data }, { on := 5, ground := Ground.chain }, { on := 5, ground := Ground.guard }], guard := some (5, true) }) (v := undef) rfl (by kernel_rfl) (by kernel_rfl) (by kernel_rfl) (fun _ _ _ h => h) (Or.inr ⟨by rfl, rfl⟩) (by assumption) ?_; (try simp only [Act.put, List.setIfInBounds_toArray, List.set_cons_zero, List.set_cons_succ]))
                      (refine wpAnyH_take (i := 9) (oi := { dst := some 71, op := Op.move (Operand.tmp 2), type := 26, pos := "l6_well.go:250", after := #[{ on := 8, ground := Ground.guard }], guard := some (8, false) }) (v := undef) rfl (by kernel_rfl) (by kernel_rfl) (by kernel_rfl) (fun _ _ _ h => h) (Or.inr ⟨by rfl, rfl⟩) (by assumption) ?_; (try simp only [Act.put, List.setIfInBounds_toArray, List.set_cons_zero, List.set_cons_succ]))
                      (refine wpAnyH_take (i := 10) (oi := { dst := some 72, op := Op.move (Operand.tmp 13), type := 3, pos := "l6_well.go:250", after := #[{ on := 8, ground := Ground.guard }], guard := some (8, false) }) (v := undef) rfl (by kernel_rfl) (by kernel_rfl) (by kernel_rfl) (fun _ _ _ h => h) (Or.inr ⟨by rfl, rfl⟩) (by assumption) ?_; (try simp only [Act.put, List.setIfInBounds_toArray, List.set_cons_zero, List.set_cons_succ]))
                      (refine wpAnyH_take (i := 11) (oi := { dst := some 73, op := Op.indexAddr 26 (Operand.tmp 71) (Operand.tmp 72), type := 0, pos := "l6_well.go:250", after := #[{ on := 9, ground := Ground.data }, { on := 10, ground := Ground.data }, { on := 8, ground := Ground.guard }], guard := some (8, false) }) (v := undef) rfl (by kernel_rfl) (by kernel_rfl) (by kernel_rfl) (fun _ _ _ h => h) (Or.inr ⟨by rfl, rfl⟩) (by assumption) ?_; (try simp only [Act.put, List.setIfInBounds_toArray, List.set_cons_zero, List.set_cons_succ]))
                      (refine wpAnyH_take (i := 12) (oi := { dst := some 74, op := Op.fieldAddr 34 (Operand.tmp 73) 0, type := 0, pos := "l6_well.go:250", after := #[{ on := 11, ground := Ground.data }, { on := 8, ground := Ground.guard }], guard := some (8, false) }) (v := undef) rfl (by kernel_rfl) (by kernel_rfl) (by kernel_rfl) (fun _ _ _ h => h) (Or.inr ⟨by rfl, rfl⟩) (by assumption) ?_; (try simp only [Act.put, List.setIfInBounds_toArray, List.set_cons_zero, List.set_cons_succ]))
                      (refine wpAnyH_take (i := 13) (oi := { dst := some 75, op := Op.load 3 (Operand.tmp 74), type := 3, pos := "l6_well.go:250", after := #[{ on := 12, ground := Ground.data }, { on := 8, ground := Ground.guard }], guard := some (8, false) }) (v := undef) rfl (by kernel_rfl) (by kernel_rfl) (by kernel_rfl) (fun _ _ _ h => h) (Or.inr ⟨by rfl, rfl⟩) (by assumption) ?_; (try simp only [Act.put, List.setIfInBounds_toArray, List.set_cons_zero, List.set_cons_succ]))
                      (refine wpAnyH_take (i := 14) (oi := { dst := some 76, op := Op.move (Operand.tmp 2), type := 26, pos := "l6_well.go:250", after := #[{ on := 8, ground := Ground.guard }], guard := some (8, false) }) (v := undef) rfl (by kernel_rfl) (by kernel_rfl) (by kernel_rfl) (fun _ _ _ h => h) (Or.inr ⟨by rfl, rfl⟩) (by assumption) ?_; (try simp only [Act.put, List.setIfInBounds_toArray, List.set_cons_zero, List.set_cons_succ]))
                      (refine wpAnyH_take (i := 15) (oi := { dst := some 77, op := Op.move (Operand.tmp 12), type := 3, pos := "l6_well.go:250", after := #[{ on := 8, ground := Ground.guard }], guard := some (8, false) }) (v := undef) rfl (by kernel_rfl) (by kernel_rfl) (by kernel_rfl) (fun _ _ _ h => h) (Or.inr ⟨by rfl, rfl⟩) (by assumption) ?_; (try simp only [Act.put, List.setIfInBounds_toArray, List.set_cons_zero, List.set_cons_succ]))
                      (refine wpAnyH_take (i := 16) (oi := { dst := some 78, op := Op.indexAddr 26 (Operand.tmp 76) (Operand.tmp 77), type := 0, pos := "l6_well.go:250", after := #[{ on := 14, ground := Ground.data }, { on := 15, ground := Ground.data }, { on := 8, ground := Ground.guard }], guard := some (8, false) }) (v := undef) rfl (by kernel_rfl) (by kernel_rfl) (by kernel_rfl) (fun _ _ _ h => h) (Or.inr ⟨by rfl, rfl⟩) (by assumption) ?_; (try simp only [Act.put, List.setIfInBounds_toArray, List.set_cons_zero, List.set_cons_succ]))
                      (refine wpAnyH_take (i := 17) (oi := { dst := some 79, op := Op.fieldAddr 34 (Operand.tmp 78) 0, type := 0, pos := "l6_well.go:250", after := #[{ on := 16, ground := Ground.data }, { on := 8, ground := Ground.guard }], guard := some (8, false) }) (v := undef) rfl (by kernel_rfl) (by kernel_rfl) (by kernel_rfl) (fun _ _ _ h => h) (Or.inr ⟨by rfl, rfl⟩) (by assumption) ?_; (try simp only [Act.put, List.setIfInBounds_toArray, List.set_cons_zero, List.set_cons_succ]))
                      (refine wpAnyH_take (i := 18) (oi := { dst := some 80, op := Op.load 3 (Operand.tmp 79), type := 3, pos := "l6_well.go:250", after := #[{ on := 17, ground := Ground.data }, { on := 8, ground := Ground.guard }], guard := some (8, false) }) (v := undef) rfl (by kernel_rfl) (by kernel_rfl) (by kernel_rfl) (fun _ _ _ h => h) (Or.inr ⟨by rfl, rfl⟩) (by assumption) ?_; (try simp only [Act.put, List.setIfInBounds_toArray, List.set_cons_zero, List.set_cons_succ]))
                      (refine wpAnyH_take (i := 19) (oi := { dst := some 81, op := Op.binOp BinOp.gtr 3 (Operand.tmp 75) (Operand.tmp 80) 3, type := 4, pos := "l6_well.go:250", after := #[{ on := 13, ground := Ground.data }, { on := 18, ground := Ground.data }, { on := 8, ground := Ground.guard }], guard := some (8, false) }) (v := undef) rfl (by kernel_rfl) (by kernel_rfl) (by kernel_rfl) (fun _ _ _ h => h) (Or.inr ⟨by rfl, rfl⟩) (by assumption) ?_; (try simp only [Act.put, List.setIfInBounds_toArray, List.set_cons_zero, List.set_cons_succ]))
                      (refine wpAnyH_take (i := 20) (oi := { dst := some 82, op := Op.pick (Operand.tmp 70) (Operand.const (Value.bool true)) (Operand.tmp 81), type := 4, pos := "l6_well.go:250", after := #[{ on := 8, ground := Ground.data }, { on := 19, ground := Ground.data }, { on := 5, ground := Ground.guard }], guard := some (5, true) }) (v := undef) rfl (by kernel_rfl) (by kernel_rfl) (by kernel_rfl) (fun _ _ _ h => h) (Or.inr ⟨by rfl, rfl⟩) (by assumption) ?_; (try simp only [Act.put, List.setIfInBounds_toArray, List.set_cons_zero, List.set_cons_succ]))
                      (refine wpAnyH_take (i := 21) (oi := { dst := some 83, op := Op.pick (Operand.tmp 67) (Operand.tmp 82) (Operand.const (Value.bool false)), type := 4, pos := "l6_well.go:250", after := #[{ on := 5, ground := Ground.data }, { on := 20, ground := Ground.data }], guard := none }) (v := ?_) rfl (by kernel_rfl) (by kernel_rfl) (by kernel_rfl) (fun _ _ _ h => h) (Or.inl ⟨by rfl, ?_⟩) (by assumption) ?_; rotate_left; (focus (intro w hSw; (try dsimp only at hSw); go_simp; try with_reducible rfl)); (try simp only [Act.put, List.setIfInBounds_toArray, List.set_cons_zero, List.set_cons_succ]))
                      refine wpAnyH_done (by kernel_rfl) ?_ _
                      (try refine NoPanic.normal ?_)
                      all_goals go_wp2
                      all_goals first | (exfalso; omega) | skip
                      all_goals
                        go_roundw
                        case rel => exact ⟨k + 1, _, rfl, by go_num, by omega, hnx, own_drew hown3, bdrew hbel3⟩
                        case measure => first | (simp [intOf]; done) | (simp [intOf]; omega)
                  · have e0 : k = m' := by omega
                    subst e0
                    go_wp2
                    all_goals go_meet
                    all_goals exact ⟨b, rfl, hBst, hown3, hbel3⟩
              case rest =>
                obtain ⟨b, rfl, hBst, hown3, hbel3⟩ := hcut
                have hgr : g < wc.heap.size := (hown3.lt g rfl).2
                rcases hBst.out with ⟨hb, hav⟩ | ⟨kb, hb, hkb, hUb, hmax⟩
                · subst hb
                  have h8 := tkSt_none hS'.out hs.out hlt hav
                  have h9 := hNone.out (fun j _ => h8 j)
                  clear h8 hHit hNone
                  obtain ⟨hV9, hB9⟩ := h9
                  subst hV9 hB9
                  go_wp2
                  all_goals refine bodyPost_ret (v := .tuple #[.int .i64 0, .bool false]) (by simp only [results, Try.results5]; go_simp) rfl ⟨rfl, ?_⟩
                  all_goals exact hbel3
                · subst hb
                  have hS2 := Lib.hid (tkSt_take hS'.out hs.out hlt kb hkb hUb hmax)
                  obtain ⟨a, hae, e0, e1⟩ := HCell.out kb (by omega) wc hbel3
                  subst hae
                  clear e1 hmax hBst
                  have hG := HGet.out kb
                  have f2 := hown3.frozenAt kb
                  have hu : wc.cell? ⟨g, kb, none⟩ = some (.bool (U kb)) := by
                    rw [hown3.cellAt kb (by omega), rowB_get _ _ _ (by omega)]
                  obtain ⟨st0, gr0⟩ := hown3.stored kb (.bool true)
                  rw [rowB_set] at st0
                  have i1 : (0 : Int) ≤ (kb : Int) ∧ (kb : Int) < (n : Int) := by omega
                  have hbel4 : Below w.heap.size w (wc.setCell ⟨g, kb, none⟩ (.bool true)) := bset hbel3 hgl _
                  obtain ⟨a3, hae3, e3, e4⟩ := HCell.out kb (by omega) _ hbel4
                  injection hae3 with hae3
                  subst hae3
                  clear e4
                  have htn2 : t + 1 ≤ n := by have := hS2.out.hc; omega
                  have hpos : ¬ ((kb : Int) < 0) := by omega
                  generalize (l.getD kb default).a = f at *
                  generalize (l.getD kb default).b = b0 at *
                  have wq := IntWalk.i64_in (r + f) (by omega)
                  generalize hpp : tkAt l m' = p at *
                  replace hpp := Lib.hid hpp
                  go_wp2
                  all_goals first | (exfalso; omega) | skip
                  all_goals
                    go_roundw
                    case rel => exact ⟨t + 1, m', tkUp U kb, r + f, rfl, by go_num, by rw [hpp.out], rfl, by omega, by omega, hmn', htn2, hS2, st0, hbel4⟩
                    case measure => first | (simp [intOf]; done) | (simp [intOf]; omega)
          · have h8 := tkSt_end hS.out (by omega)
            have h9 := hHit.out t h8.1 h8.2.1 h8.2.2
            clear h8 hHit hNone
            obtain ⟨hV9, hB9⟩ := h9
            subst hV9 hB9
            go_wp2
            refine bodyPost_ret (v := .tuple #[.int .i64 (t : Int), .bool true]) (by simp only [results, Try.results5]; go_simp) rfl ⟨rfl, ?_⟩
            exact hbel2
end Go.Proofs.Ytoienhjbhpdehaa
