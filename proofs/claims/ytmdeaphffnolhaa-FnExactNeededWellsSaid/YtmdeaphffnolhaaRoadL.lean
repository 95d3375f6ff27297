/- Roads: LongestGap of the model; the law. -/
import Derived.Test.YtmdeaphffnolhaaRoadJ
import Derived.Test.YtmdeaphffnolhaaRoadK
import Derived.Deep.RegionHeld3
import Derived.Deep.DeepCutAuto
namespace Go.Proofs.Ytmdeaphffnolhaa
open Go.ChangeShapes Go.WideShapes Go.ChangeAt Go.RowKit Go.Joins
set_option maxRecDepth 100000
set_option linter.unusedVariables false
set_option linter.unusedSimpArgs false


set_option maxHeartbeats 6400000 in
theorem longest_spec (n d : Int) (bn : -9223372036854775808 ≤ n ∧ n ≤ 9223372036854775807) (bd : -9223372036854775808 ≤ d ∧ d ≤ 9223372036854775807) (v : Value) (l : List (Int × Int)) (w : World) (h : RowG 2 fAmt w v l) :
    Calls Try.prog 20 #[.agg #[.int .i64 n, .int .i64 d, v]] w fun e w' => e = .returned (.tuple #[.agg #[.int .i64 (lgO n d l).1, .int .i64 (lgO n d l).2], .bool (rdB n d l)]) ∧ Below w.heap.size w w' := by
  have HR := Lib.hid (fun W (hB : Below w.heap.size w W) => weGood_spec n d bn bd v l W (rowG_below h hB))
  cases hr : rdB n d l
  · rw [lgO_no hr]
    rw [hr] at HR
    clear h hr
    go_enter Try.func20, Try.ntmps20
    go_wp2_with fail
    refine (HR.out _ (by (repeat (first | with_reducible exact Below.refl _ _ | with_reducible assumption | with_reducible refine balloc ?_ _ | with_reducible refine bdrew ?_ | with_reducible refine below_drewN ?_ _ | with_reducible refine bset ?_ ?_ _ | with_reducible exact Nat.le_refl _ | with_reducible refine bsize ?_ | (dsimp only; refine Nat.le_trans ?_ (Nat.le_add_right _ _)) | with_reducible refine Nat.le_trans ?_ (Nat.le_add_right _ _) | (with_reducible refine bstep ?_ (by assumption)))))).mono ?_
    rintro e w1 ⟨rfl, hb1⟩
    have q0 : w1.cell? ⟨w.heap.size + 1, 0, none⟩ = some (.int .i64 0) := (hb1.cell (p := ⟨w.heap.size + 1, 0, none⟩) (by simp)).trans (by simp [go_sem])
    have q1 : w1.cell? ⟨w.heap.size + 1, 1, none⟩ = some (.int .i64 0) := (hb1.cell (p := ⟨w.heap.size + 1, 1, none⟩) (by simp)).trans (by simp [go_sem])
    have q2 : w1.frozen? ⟨w.heap.size + 1, 0, none⟩ = false := (hb1.frozen (p := ⟨w.heap.size + 1, 0, none⟩) (by simp)).trans (by simp [go_sem])
    have q3 : w1.frozen? ⟨w.heap.size + 1, 1, none⟩ = false := (hb1.frozen (p := ⟨w.heap.size + 1, 1, none⟩) (by simp)).trans (by simp [go_sem])
    go_wp2
    refine bodyPost_ret (v := .tuple #[.agg #[.int .i64 0, .int .i64 0], .bool false]) (by simp only [results, Try.results20]; go_simp) rfl ⟨rfl, ?_⟩
    (repeat (first | with_reducible exact Below.refl _ _ | with_reducible assumption | with_reducible refine balloc ?_ _ | with_reducible refine bdrew ?_ | with_reducible refine below_drewN ?_ _ | with_reducible refine bset ?_ ?_ _ | with_reducible exact Nat.le_refl _ | with_reducible refine bsize ?_ | (dsimp only; refine Nat.le_trans ?_ (Nat.le_add_right _ _)) | with_reducible refine Nat.le_trans ?_ (Nat.le_add_right _ _) | (with_reducible refine bstep ?_ (by assumption))))
  · obtain ⟨hw, h16, hlr⟩ := rdB_1 hr
    have HPl := Lib.hid (fun W (hB : Below w.heap.size w W) => places_spec n d v l W (rowG_below h hB) (by omega))
    have hall := gapL_am hr
    have hst := Lib.hid (fun (i : Nat) (p q : Int × Int) hp hq => rd_step hr (i := i) (p := p) (q := q) hp hq)
    rw [hr] at HR
    rw [lgO_yes hr]
    have hPlen : (plL n d l).length = l.length + 1 + 1 := by simp [plL, endL]
    have hPbd : ∀ p ∈ plL n d l, ∀ y ∈ fAmt p, -9223372036854775808 ≤ y ∧ y ≤ 9223372036854775807 := by
      intro p hp y hy
      have hpa : amB p.1 p.2 = true := by
        simp only [plL, endL, List.mem_cons, List.mem_append, List.mem_singleton, List.not_mem_nil, or_false] at hp
        rcases hp with rfl | hp | rfl
        · exact am01
        · exact rp_am (hlr p hp)
        · exact rp_am hw
      have ha := am_of _ _ hpa
      have q1 := ha.a
      have q2 := ha.b
      have q3 := ha.c
      have q4 := ha.d
      simp [fAmt] at hy
      omega
    have hPB := Lib.hid hPbd
    have hgn : ∀ (k : Nat) (p q : Int × Int), (plL n d l)[k]? = some p → (plL n d l)[k + 1]? = some q → StOK p q ∧ ∀ m, lgF ((gapL n d l).drop k) m = lgF ((gapL n d l).drop (k + 1)) (mxP m (difP p q)) := by
      intro k p q hp hq
      have hq' : (endL n d l)[k]? = some q := by rw [plL, List.getElem?_cons_succ] at hq; exact hq
      refine ⟨hst.out k p q hp hq', fun m => ?_⟩
      have hx := gpL_get (endL n d l) (0, 1) k p q hp hq'
      have hk := (List.getElem?_eq_some_iff.1 hx).1
      show lgF ((gpL (endL n d l) (0, 1)).drop k) m = _
      rw [List.drop_eq_getElem_cons hk]
      rw [List.getElem?_eq_getElem hk] at hx
      injection hx with hx
      rw [hx]; rfl
    replace hgn := Lib.hid hgn
    have hGlen : (gapL n d l).length + 1 = (plL n d l).length := by rw [gapL, gpL_len]; simp [endL, plL]
    have hP2 : 2 ≤ (plL n d l).length := by omega
    have hP18 : (plL n d l).length ≤ 18 := by omega
    replace hGlen := Lib.hid hGlen
    clear h hr hPbd hlr hst hall hw hPlen
    generalize plL n d l = P at *
    generalize gapL n d l = G at *
    obtain ⟨R, hR⟩ : ∃ R, lgF G (0, 1) = R := ⟨_, rfl⟩
    have hR0 : Hid (lgF (G.drop 0) (0, 1) = R) := Lib.hid hR
    rw [hR]
    clear hR
    go_enter Try.func20, Try.ntmps20
    go_wp2_with fail
    refine (HR.out _ (by (repeat (first | with_reducible exact Below.refl _ _ | with_reducible assumption | with_reducible refine balloc ?_ _ | with_reducible refine bdrew ?_ | with_reducible refine below_drewN ?_ _ | with_reducible refine bset ?_ ?_ _ | with_reducible exact Nat.le_refl _ | with_reducible refine bsize ?_ | (dsimp only; refine Nat.le_trans ?_ (Nat.le_add_right _ _)) | with_reducible refine Nat.le_trans ?_ (Nat.le_add_right _ _) | (with_reducible refine bstep ?_ (by assumption)))))).mono ?_
    rintro e w1 ⟨rfl, hb1⟩
    have A1 : RdAt w.heap.size n d v w1 := ((RdAt.new w n d v 32).alloc _).later hb1
    have ha1 : Below w.heap.size w w1 := by (repeat (first | with_reducible exact Below.refl _ _ | with_reducible assumption | with_reducible refine balloc ?_ _ | with_reducible refine bdrew ?_ | with_reducible refine below_drewN ?_ _ | with_reducible refine bset ?_ ?_ _ | with_reducible exact Nat.le_refl _ | with_reducible refine bsize ?_ | (dsimp only; refine Nat.le_trans ?_ (Nat.le_add_right _ _)) | with_reducible refine Nat.le_trans ?_ (Nat.le_add_right _ _) | (with_reducible refine bstep ?_ (by assumption))))
    have q0 : w1.cell? ⟨w.heap.size + 1, 0, none⟩ = some (.int .i64 0) := (hb1.cell (p := ⟨w.heap.size + 1, 0, none⟩) (by simp)).trans (by simp [go_sem])
    have q1 : w1.cell? ⟨w.heap.size + 1, 1, none⟩ = some (.int .i64 0) := (hb1.cell (p := ⟨w.heap.size + 1, 1, none⟩) (by simp)).trans (by simp [go_sem])
    have q2 : w1.frozen? ⟨w.heap.size + 1, 0, none⟩ = false := (hb1.frozen (p := ⟨w.heap.size + 1, 0, none⟩) (by simp)).trans (by simp [go_sem])
    have q3 : w1.frozen? ⟨w.heap.size + 1, 1, none⟩ = false := (hb1.frozen (p := ⟨w.heap.size + 1, 1, none⟩) (by simp)).trans (by simp [go_sem])
    have qz : w.heap.size + 1 < w1.heap.size := Nat.lt_of_lt_of_le (by simp) hb1.size
    obtain ⟨x0, x1, x2, xz⟩ := A1
    clear hb1 HR
    go_wp2_with fail
    refine (HPl.out _ ha1).mono ?_
    rintro e w2 ⟨v2, rfl, hown2, hb2⟩
    obtain ⟨gq, cq, rfl, _, _⟩ := own_form hown2 (by omega)
    have hL2 := liesG_own fAmt_len hown2 hPB.out
    have f2 := hb2
    clear hown2 x0 x1 x2 xz HPl hb2
    go_wp2_with fail
    refine (whole_bs 0 _).mono ?_
    rintro e w3 ⟨rfl, hb3⟩
    have f3 : Below w1.heap.size w1 w3 := bstep f2 hb3
    replace q0 := keepa f3 qz q0
    replace q1 := keepa f3 qz q1
    replace q2 := keepf f3 qz q2
    replace q3 := keepf f3 qz q3
    replace qz := Nat.lt_of_lt_of_le qz f3.size
    have ha3 := bstep ha1 f3
    have hL3 := Lib.hid (liesG_below hL2 hb3)
    have hlc := hL3.out.hlc
    have hcap := hL3.out.hcap
    clear hL2 hb3 f2 f3 ha1
    go_wp2
    go_loopw [6, 7, 8] (fun i u7 u8 wr => ∃ (k : Nat) (m : Int × Int), k + 1 ≤ P.length ∧ i = .int .i64 ((k : Int) + 1) ∧ Hid (lgF (G.drop k) m = R) ∧ Hid (amB m.1 m.2 = true) ∧ wr.cell? ⟨w3.heap.size, 0, none⟩ = some (.int .i64 m.1) ∧ wr.cell? ⟨w3.heap.size, 1, none⟩ = some (.int .i64 m.2) ∧
      wr.frozen? ⟨w3.heap.size, 0, none⟩ = false ∧ wr.frozen? ⟨w3.heap.size, 1, none⟩ = false ∧ w3.heap.size < wr.heap.size ∧ Below w3.heap.size w3 wr) (fun i _ _ _ => P.length - (intOf i).toNat)
    case atStart =>
      refine ⟨0, (0, 1), by omega, by simp, hR0, Lib.hid am01, ?_, ?_, ?_, ?_, ?_, ?_⟩
      all_goals first | ((repeat (first | with_reducible exact Below.refl _ _ | with_reducible assumption | with_reducible refine balloc ?_ _ | with_reducible refine bdrew ?_ | with_reducible refine below_drewN ?_ _ | with_reducible refine bset ?_ ?_ _ | with_reducible exact Nat.le_refl _ | with_reducible refine bsize ?_ | (dsimp only; refine Nat.le_trans ?_ (Nat.le_add_right _ _)) | with_reducible refine Nat.le_trans ?_ (Nat.le_add_right _ _) | (with_reducible refine bstep ?_ (by assumption)))); done) | (simp [go_sem]; done)
    case round =>
      obtain ⟨k, m, hk, rfl, hfold, hm, s0, s1, s2, s3, hs, hbel⟩ := hrel
      by_cases hlt : k + 1 < P.length
      · obtain ⟨p, hp⟩ : ∃ p, P[k]? = some p := ⟨_, List.getElem?_eq_getElem (by omega)⟩
        obtain ⟨q, hq⟩ : ∃ q, P[k + 1]? = some q := ⟨_, List.getElem?_eq_getElem hlt⟩
        have hL4 := liesG_below hL3.out hbel
        have d0 : wr.cell? ⟨gq, k * 2, none⟩ = some (.int .i64 p.1) := by
          have h := hL4.hcell k p hp 0 p.1 rfl
          rw [add_at] at h
          exact h
        have d1 : wr.cell? ⟨gq, k * 2 + 1, none⟩ = some (.int .i64 p.2) := by
          have h := hL4.hcell k p hp 1 p.2 rfl
          rw [add_at] at h
          exact h
        have e0 : wr.cell? ⟨gq, (k + 1) * 2, none⟩ = some (.int .i64 q.1) := by
          have h := hL4.hcell (k + 1) q hq 0 q.1 rfl
          rw [add_at] at h
          exact h
        have e1 : wr.cell? ⟨gq, (k + 1) * 2 + 1, none⟩ = some (.int .i64 q.2) := by
          have h := hL4.hcell (k + 1) q hq 1 q.2 rfl
          rw [add_at] at h
          exact h
        have zq : gq < wr.heap.size := cell_lt d0
        obtain ⟨hstp, hfn⟩ := hgn.out k p q hp hq
        have hn := hfn m
        rw [hfold.out] at hn
        have hdam := st_am hstp
        have HL := Lib.hid (fun W => amLess_spec q.1 q.2 p.1 p.2 (am_of _ _ hstp.aq) (am_of _ _ hstp.ap) W)
        rw [st_low hstp] at HL
        have hdx : difP p q = (lowN (q.1 * p.2 - p.1 * q.2) (q.2 * p.2), lowD (q.1 * p.2 - p.1 * q.2) (q.2 * p.2)) := rfl
        rw [hdx] at hn hdam
        generalize lowN (q.1 * p.2 - p.1 * q.2) (q.2 * p.2) = gx at *
        generalize lowD (q.1 * p.2 - p.1 * q.2) (q.2 * p.2) = gy at *
        have HC := Lib.hid (fun W => cmp_spec gx gy m.1 m.2 (am_of _ _ hdam) (am_of _ _ hm.out) W)
        have hmx : mxP m (gx, gy) = if 0 < cmI gx gy m.1 m.2 then (gx, gy) else m := rfl
        have hcm : cmI gx gy m.1 m.2 = sgI (gx * m.2 - m.1 * gy) := by
          have h1 : amB gx gy = true := hdam
          simp [cmI, okk, h1, hm.out]
        rw [hcm] at hmx
        clear hcm
        obtain ⟨C, hC⟩ : ∃ C, sgI (gx * m.2 - m.1 * gy) = C := ⟨_, rfl⟩
        rw [hC] at HC hmx
        have ham2 : Hid (amB (mxP m (gx, gy)).1 (mxP m (gx, gy)).2 = true) := Lib.hid (by rw [hmx]; split <;> first | exact hdam | exact hm.out)
        clear hC hL4 hp hq hfold hstp hfn hdx hm hdam
        replace hn := Lib.hid hn.symm
        generalize hMM : mxP m (gx, gy) = M at *
        have hmx2 := Lib.hid hmx
        clear hmx hMM
        have i1 : (0 : Int) ≤ (k : Int) + 1 := by omega
        have i2 : (k : Int) + 1 < (P.length : Int) := by omega
        have i3 : ((k : Int) + 1).toNat = k + 1 := by omega
        have i4 : (0 : Int) ≤ (k : Int) := by omega
        have i5 : (k : Int) < (P.length : Int) := by omega
        have wq1 : IntKind.i64.wrap ((k : Int) + 1 - 1) = (k : Int) := by rw [IntWalk.i64_in _ (by omega)]; omega
        have wq2 : IntKind.i64.wrap ((k : Int)) = (k : Int) := by rw [IntWalk.i64_in _ (by omega)]
        obtain ⟨p1, p2⟩ := p
        obtain ⟨q1', q2'⟩ := q
        obtain ⟨m1, m2⟩ := m
        simp only at d0 d1 e0 e1 s0 s1 HL HC
        go_upto_region 8 with fail
        go_cut [7, 8] (fun s7 s8 wx => ∃ g : Nat, s7 = .pointer (some ⟨g, 0, none⟩) ∧ s8 = .bool true ∧ wx.cell? ⟨g, 0, none⟩ = some (.int .i64 gx) ∧ wx.cell? ⟨g, 1, none⟩ = some (.int .i64 gy) ∧ g < wx.heap.size ∧ Below wr.heap.size wr wx)
        case first =>
          refine wp_region_noPanic ?_
          refine wp_region_held_drew (S := (fun W => Below wr.heap.size wr W ∧ W.cell? ⟨gq, k * 2, none⟩ = some (.int .i64 p1) ∧ W.cell? ⟨gq, k * 2 + 1, none⟩ = some (.int .i64 p2) ∧ W.cell? ⟨gq, (k + 1) * 2, none⟩ = some (.int .i64 q1') ∧ W.cell? ⟨gq, (k + 1) * 2 + 1, none⟩ = some (.int .i64 q2'))) (by kernel_rfl) ?_ (fun hHeld0 => ?_)
          · (try dsimp only); (go_split_ands; (repeat' with_reducible apply And.intro) <;> first | with_reducible assumption | ((repeat (first | with_reducible exact Below.refl _ _ | with_reducible assumption | with_reducible refine balloc ?_ _ | with_reducible refine bdrew ?_ | with_reducible refine below_drewN ?_ _ | with_reducible refine bset ?_ ?_ _ | with_reducible exact Nat.le_refl _ | with_reducible refine bsize ?_ | (dsimp only; refine Nat.le_trans ?_ (Nat.le_add_right _ _)) | with_reducible refine Nat.le_trans ?_ (Nat.le_add_right _ _) | (with_reducible refine bstep ?_ (by assumption)))); done) | (simp [go_sem]; done) | (simp [go_sem, *]; done) | go_keep)
          (refine wpAnyH_take (i := 0) (oi := { dst := some 23, op := Op.move (Operand.tmp 4), type := 30, pos := "l6_well.go:76", after := #[], guard := none }) (v := ?_) rfl (by kernel_rfl) (by kernel_rfl) (by kernel_rfl) (fun _ _ _ h => h) (Or.inl ⟨by rfl, ?_⟩) (by assumption) ?_; rotate_left; (focus (intro w hSw; (try dsimp only at hSw); go_simp; try with_reducible rfl)); (try simp only [Act.put, List.setIfInBounds_toArray, List.set_cons_zero, List.set_cons_succ]))
          (refine wpAnyH_take (i := 1) (oi := { dst := some 24, op := Op.move (Operand.tmp 6), type := 3, pos := "l6_well.go:76", after := #[], guard := none }) (v := ?_) rfl (by kernel_rfl) (by kernel_rfl) (by kernel_rfl) (fun _ _ _ h => h) (Or.inl ⟨by rfl, ?_⟩) (by assumption) ?_; rotate_left; (focus (intro w hSw; (try dsimp only at hSw); go_simp; try with_reducible rfl)); (try simp only [Act.put, List.setIfInBounds_toArray, List.set_cons_zero, List.set_cons_succ]))
          (refine wpAnyH_take (i := 2) (oi := { dst := some 25, op := Op.indexAddr 30 (Operand.tmp 23) (Operand.tmp 24), type := 0, pos := "l6_well.go:76", after := #[{ on := 0, ground := Ground.data }, { on := 1, ground := Ground.data }], guard := none }) (v := ?_) rfl (by kernel_rfl) (by kernel_rfl) (by kernel_rfl) (fun _ _ _ h => h) (Or.inl ⟨by rfl, ?_⟩) (by assumption) ?_; rotate_left; (focus (intro w hSw; (try dsimp only at hSw); go_simp; try with_reducible rfl)); (try simp only [Act.put, List.setIfInBounds_toArray, List.set_cons_zero, List.set_cons_succ]))
          (refine wpAnyH_take (i := 3) (oi := { dst := some 26, op := Op.load 29 (Operand.tmp 25), type := 29, pos := "l6_well.go:76", after := #[{ on := 2, ground := Ground.data }], guard := none }) (v := ?_) rfl (by kernel_rfl) (by kernel_rfl) (by kernel_rfl) (fun _ _ _ h => h) (Or.inl ⟨by rfl, ?_⟩) (by assumption) ?_; rotate_left; (focus (intro w hSw; (try dsimp only at hSw); go_simp; try with_reducible rfl)); (try simp only [Act.put, List.setIfInBounds_toArray, List.set_cons_zero, List.set_cons_succ]))
          (refine wpAnyH_take (i := 4) (oi := { dst := some 27, op := Op.move (Operand.tmp 4), type := 30, pos := "l6_well.go:76", after := #[], guard := none }) (v := ?_) rfl (by kernel_rfl) (by kernel_rfl) (by kernel_rfl) (fun _ _ _ h => h) (Or.inl ⟨by rfl, ?_⟩) (by assumption) ?_; rotate_left; (focus (intro w hSw; (try dsimp only at hSw); go_simp; try with_reducible rfl)); (try simp only [Act.put, List.setIfInBounds_toArray, List.set_cons_zero, List.set_cons_succ]))
          (refine wpAnyH_take (i := 5) (oi := { dst := some 28, op := Op.move (Operand.tmp 6), type := 3, pos := "l6_well.go:76", after := #[], guard := none }) (v := ?_) rfl (by kernel_rfl) (by kernel_rfl) (by kernel_rfl) (fun _ _ _ h => h) (Or.inl ⟨by rfl, ?_⟩) (by assumption) ?_; rotate_left; (focus (intro w hSw; (try dsimp only at hSw); go_simp; try with_reducible rfl)); (try simp only [Act.put, List.setIfInBounds_toArray, List.set_cons_zero, List.set_cons_succ]))
          (refine wpAnyH_take (i := 6) (oi := { dst := some 29, op := Op.binOp BinOp.sub 3 (Operand.tmp 28) (Operand.const (Value.int IntKind.i64 1)) 3, type := 3, pos := "l6_well.go:76", after := #[{ on := 5, ground := Ground.data }], guard := none }) (v := (.int .i64 (k : Int))) rfl (by kernel_rfl) (by kernel_rfl) (by kernel_rfl) (fun _ _ _ h => h) (Or.inl ⟨by rfl, ?_⟩) (by assumption) ?_; (focus (intro w hSw; (try dsimp only at hSw); go_simp; first | done | (first | (simp [wq1, wq2]; done) | (simp; omega)))); (try simp only [Act.put, List.setIfInBounds_toArray, List.set_cons_zero, List.set_cons_succ]))
          (refine wpAnyH_take (i := 7) (oi := { dst := some 30, op := Op.indexAddr 30 (Operand.tmp 27) (Operand.tmp 29), type := 0, pos := "l6_well.go:76", after := #[{ on := 4, ground := Ground.data }, { on := 6, ground := Ground.data }], guard := none }) (v := ?_) rfl (by kernel_rfl) (by kernel_rfl) (by kernel_rfl) (fun _ _ _ h => h) (Or.inl ⟨by rfl, ?_⟩) (by assumption) ?_; rotate_left; (focus (intro w hSw; (try dsimp only at hSw); go_simp; try with_reducible rfl)); (try simp only [Act.put, List.setIfInBounds_toArray, List.set_cons_zero, List.set_cons_succ]))
          (refine wpAnyH_take (i := 8) (oi := { dst := some 31, op := Op.load 29 (Operand.tmp 30), type := 29, pos := "l6_well.go:76", after := #[{ on := 7, ground := Ground.data }], guard := none }) (v := ?_) rfl (by kernel_rfl) (by kernel_rfl) (by kernel_rfl) (fun _ _ _ h => h) (Or.inl ⟨by rfl, ?_⟩) (by assumption) ?_; rotate_left; (focus (intro w hSw; (try dsimp only at hSw); go_simp; try with_reducible rfl)); (try simp only [Act.put, List.setIfInBounds_toArray, List.set_cons_zero, List.set_cons_succ]))
          refine wpAnyH_ready (rs := [9, 13]) (by kernel_rfl) (by simp) (AllReadyH.cons (o := { dst := some 32, op := Op.call { callee := Callee.value (Operand.func 55), args := #[Operand.tmp 26, Operand.tmp 31], argTypes := #[29, 29] }, type := 38, pos := "l6_well.go:76", after := #[{ on := 3, ground := Ground.data }, { on := 8, ground := Ground.data }], guard := none }) rfl (fun K hK => ?rga2) (AllReadyH.cons (o := { dst := some 7, op := Op.alloc 29, type := 0, pos := "l6_well.go:76", after := #[], guard := none }) rfl (fun K hK => ?rga1) AllReadyH.nil))
          case' rga2 =>
            (go_simp; (refine (HL.out _).mono ?_; rintro e w5 ⟨rfl, hb5⟩; (have f5 : Below wr.heap.size wr w5 := bstep (by first | with_reducible assumption | ((repeat (first | with_reducible exact Below.refl _ _ | with_reducible assumption | with_reducible refine balloc ?_ _ | with_reducible refine bdrew ?_ | with_reducible refine below_drewN ?_ _ | with_reducible refine bset ?_ ?_ _ | with_reducible exact Nat.le_refl _ | with_reducible refine bsize ?_ | (dsimp only; refine Nat.le_trans ?_ (Nat.le_add_right _ _)) | with_reducible refine Nat.le_trans ?_ (Nat.le_add_right _ _) | (with_reducible refine bstep ?_ (by assumption)))); done)) hb5); (have k0 := keepa f5 zq d0); (have k1 := keepa f5 zq d1); (have k2 := keepa f5 zq e0); (have k3 := keepa f5 zq e1); (have p0 := hb5.cell (p := ⟨wr.heap.size, 0, none⟩)); (have p1' := hb5.cell (p := ⟨wr.heap.size, 1, none⟩)); (have p2' := hb5.frozen (p := ⟨wr.heap.size, 0, none⟩)); (have p3' := hb5.frozen (p := ⟨wr.heap.size, 1, none⟩)); (have p4' := hb5.size); (try simp [go_sem] at p0 p1' p2' p3' p4')); (first | refine hK.out _ _ ?_ (fun hHeld1 => ?_) | (go_wp2_with fail; refine hK.out _ _ ?_ (fun hHeld1 => ?_))); (focus ((try dsimp only); (go_split_ands; (repeat' with_reducible apply And.intro) <;> first | with_reducible assumption | ((repeat (first | with_reducible exact Below.refl _ _ | with_reducible assumption | with_reducible refine balloc ?_ _ | with_reducible refine bdrew ?_ | with_reducible refine below_drewN ?_ _ | with_reducible refine bset ?_ ?_ _ | with_reducible exact Nat.le_refl _ | with_reducible refine bsize ?_ | (dsimp only; refine Nat.le_trans ?_ (Nat.le_add_right _ _)) | with_reducible refine Nat.le_trans ?_ (Nat.le_add_right _ _) | (with_reducible refine bstep ?_ (by assumption)))); done) | (simp [go_sem]; done) | (simp [go_sem, *]; done) | go_keep))); clear hK K; (try clear hHeld0); (try simp only [Act.put, List.setIfInBounds_toArray, List.set_cons_zero, List.set_cons_succ]))
            (refine wpAnyH_take (i := 10) (oi := { dst := some 22, op := Op.move (Operand.tmp 32), type := 38, pos := "l6_well.go:76", after := #[{ on := 9, ground := Ground.data }], guard := none }) (v := ?_) rfl (by kernel_rfl) (by kernel_rfl) (by kernel_rfl) (fun _ _ _ h => h) (Or.inl ⟨by rfl, ?_⟩) (by assumption) ?_; rotate_left; (focus (intro w hSw; (try dsimp only at hSw); go_simp; try with_reducible rfl)); (try simp only [Act.put, List.setIfInBounds_toArray, List.set_cons_zero, List.set_cons_succ]))
            (refine wpAnyH_take (i := 11) (oi := { dst := some 33, op := Op.extract (Operand.tmp 22) 0, type := 29, pos := "l6_well.go:76", after := #[{ on := 10, ground := Ground.data }], guard := none }) (v := ?_) rfl (by kernel_rfl) (by kernel_rfl) (by kernel_rfl) (fun _ _ _ h => h) (Or.inl ⟨by rfl, ?_⟩) (by assumption) ?_; rotate_left; (focus (intro w hSw; (try dsimp only at hSw); go_simp; try with_reducible rfl)); (try simp only [Act.put, List.setIfInBounds_toArray, List.set_cons_zero, List.set_cons_succ]))
            (refine wpAnyH_take (i := 12) (oi := { dst := some 34, op := Op.extract (Operand.tmp 22) 1, type := 4, pos := "l6_well.go:76", after := #[{ on := 10, ground := Ground.data }, { on := 14, ground := Ground.gcOnly Departure.lateStores }], guard := none }) (v := ?_) rfl (by kernel_rfl) (by kernel_rfl) (by kernel_rfl) (fun _ _ _ h => h) (Or.inl ⟨by rfl, ?_⟩) (by assumption) ?_; rotate_left; (focus (intro w hSw; (try dsimp only at hSw); go_simp; try with_reducible rfl)); (try simp only [Act.put, List.setIfInBounds_toArray, List.set_cons_zero, List.set_cons_succ]))
            (refine wpAnyH_ready (rs := [13]) (by kernel_rfl) (by simp) ?_; refine AllReadyH.cons (o := { dst := some 7, op := Op.alloc 29, type := 0, pos := "l6_well.go:76", after := #[], guard := none }) rfl (fun K hK => ?_) AllReadyH.nil; go_simp; skip; (first | refine hK.out _ _ ?_ (fun hHeld2 => ?_) | (go_wp2_with fail; refine hK.out _ _ ?_ (fun hHeld2 => ?_))); (focus ((try dsimp only); (go_split_ands; (repeat' with_reducible apply And.intro) <;> first | with_reducible assumption | ((repeat (first | with_reducible exact Below.refl _ _ | with_reducible assumption | with_reducible refine balloc ?_ _ | with_reducible refine bdrew ?_ | with_reducible refine below_drewN ?_ _ | with_reducible refine bset ?_ ?_ _ | with_reducible exact Nat.le_refl _ | with_reducible refine bsize ?_ | (dsimp only; refine Nat.le_trans ?_ (Nat.le_add_right _ _)) | with_reducible refine Nat.le_trans ?_ (Nat.le_add_right _ _) | (with_reducible refine bstep ?_ (by assumption)))); done) | (simp [go_sem]; done) | (simp [go_sem, *]; done) | go_keep))); clear hK K; (try clear hHeld1); (try simp only [Act.put, List.setIfInBounds_toArray, List.set_cons_zero, List.set_cons_succ]))
            (refine wpAnyH_ready (rs := [14]) (by kernel_rfl) (by simp) ?_; refine AllReadyH.cons (o := { dst := none, op := Op.store 29 (Operand.tmp 7) (Operand.tmp 33), type := 0, pos := "l6_well.go:76", after := #[{ on := 13, ground := Ground.data }, { on := 11, ground := Ground.data }, { on := 9, ground := Ground.chain }, { on := 0, ground := Ground.phase }, { on := 1, ground := Ground.phase }, { on := 2, ground := Ground.phase }, { on := 3, ground := Ground.phase }, { on := 4, ground := Ground.phase }, { on := 5, ground := Ground.phase }, { on := 6, ground := Ground.phase }, { on := 7, ground := Ground.phase }, { on := 8, ground := Ground.phase }, { on := 9, ground := Ground.phase }, { on := 10, ground := Ground.phase }, { on := 11, ground := Ground.phase }, { on := 12, ground := Ground.textOnly Departure.lateStores }, { on := 13, ground := Ground.phase }], guard := none }) rfl (fun K hK => ?_) AllReadyH.nil; go_simp; skip; (first | refine hK.out _ _ ?_ (fun hHeld3 => ?_) | (go_wp2_with fail; refine hK.out _ _ ?_ (fun hHeld3 => ?_))); (focus ((try dsimp only); (go_split_ands; (repeat' with_reducible apply And.intro) <;> first | with_reducible assumption | ((repeat (first | with_reducible exact Below.refl _ _ | with_reducible assumption | with_reducible refine balloc ?_ _ | with_reducible refine bdrew ?_ | with_reducible refine below_drewN ?_ _ | with_reducible refine bset ?_ ?_ _ | with_reducible exact Nat.le_refl _ | with_reducible refine bsize ?_ | (dsimp only; refine Nat.le_trans ?_ (Nat.le_add_right _ _)) | with_reducible refine Nat.le_trans ?_ (Nat.le_add_right _ _) | (with_reducible refine bstep ?_ (by assumption)))); done) | (simp [go_sem]; done) | (simp [go_sem, *]; done) | go_keep))); clear hK K; (try clear hHeld2); (try simp only [Act.put, List.setIfInBounds_toArray, List.set_cons_zero, List.set_cons_succ]))
            (refine wpAnyH_take (i := 15) (oi := { dst := some 8, op := Op.assign (Operand.tmp 34), type := 4, pos := "l6_well.go:76", after := #[{ on := 12, ground := Ground.data }, { on := 14, ground := Ground.chain }, { on := 0, ground := Ground.phase }, { on := 1, ground := Ground.phase }, { on := 2, ground := Ground.phase }, { on := 3, ground := Ground.phase }, { on := 4, ground := Ground.phase }, { on := 5, ground := Ground.phase }, { on := 6, ground := Ground.phase }, { on := 7, ground := Ground.phase }, { on := 8, ground := Ground.phase }, { on := 9, ground := Ground.phase }, { on := 10, ground := Ground.phase }, { on := 11, ground := Ground.phase }, { on := 12, ground := Ground.phase }, { on := 13, ground := Ground.phase }, { on := 14, ground := Ground.phase }], guard := none }) (v := ?_) rfl (by kernel_rfl) (by kernel_rfl) (by kernel_rfl) (fun _ _ _ h => h) (Or.inl ⟨by rfl, ?_⟩) (by assumption) ?_; rotate_left; (focus (intro w hSw; (try dsimp only at hSw); go_simp; try with_reducible rfl)); (try simp only [Act.put, List.setIfInBounds_toArray, List.set_cons_zero, List.set_cons_succ]))
            refine wpAnyH_done (by kernel_rfl) ?_ _
          case' rga1 =>
            (go_simp; skip; (first | refine hK.out _ _ ?_ (fun hHeld1 => ?_) | (go_wp2_with fail; refine hK.out _ _ ?_ (fun hHeld1 => ?_))); (focus ((try dsimp only); (go_split_ands; (repeat' with_reducible apply And.intro) <;> first | with_reducible assumption | ((repeat (first | with_reducible exact Below.refl _ _ | with_reducible assumption | with_reducible refine balloc ?_ _ | with_reducible refine bdrew ?_ | with_reducible refine below_drewN ?_ _ | with_reducible refine bset ?_ ?_ _ | with_reducible exact Nat.le_refl _ | with_reducible refine bsize ?_ | (dsimp only; refine Nat.le_trans ?_ (Nat.le_add_right _ _)) | with_reducible refine Nat.le_trans ?_ (Nat.le_add_right _ _) | (with_reducible refine bstep ?_ (by assumption)))); done) | (simp [go_sem]; done) | (simp [go_sem, *]; done) | go_keep))); clear hK K; (try clear hHeld0); (try simp only [Act.put, List.setIfInBounds_toArray, List.set_cons_zero, List.set_cons_succ]))
            (refine wpAnyH_ready (rs := [9]) (by kernel_rfl) (by simp) ?_; refine AllReadyH.cons (o := { dst := some 32, op := Op.call { callee := Callee.value (Operand.func 55), args := #[Operand.tmp 26, Operand.tmp 31], argTypes := #[29, 29] }, type := 38, pos := "l6_well.go:76", after := #[{ on := 3, ground := Ground.data }, { on := 8, ground := Ground.data }], guard := none }) rfl (fun K hK => ?_) AllReadyH.nil; go_simp; (refine (HL.out _).mono ?_; rintro e w5 ⟨rfl, hb5⟩; (have f5 : Below wr.heap.size wr w5 := bstep (by first | with_reducible assumption | ((repeat (first | with_reducible exact Below.refl _ _ | with_reducible assumption | with_reducible refine balloc ?_ _ | with_reducible refine bdrew ?_ | with_reducible refine below_drewN ?_ _ | with_reducible refine bset ?_ ?_ _ | with_reducible exact Nat.le_refl _ | with_reducible refine bsize ?_ | (dsimp only; refine Nat.le_trans ?_ (Nat.le_add_right _ _)) | with_reducible refine Nat.le_trans ?_ (Nat.le_add_right _ _) | (with_reducible refine bstep ?_ (by assumption)))); done)) hb5); (have k0 := keepa f5 zq d0); (have k1 := keepa f5 zq d1); (have k2 := keepa f5 zq e0); (have k3 := keepa f5 zq e1); (have p0 := hb5.cell (p := ⟨wr.heap.size, 0, none⟩)); (have p1' := hb5.cell (p := ⟨wr.heap.size, 1, none⟩)); (have p2' := hb5.frozen (p := ⟨wr.heap.size, 0, none⟩)); (have p3' := hb5.frozen (p := ⟨wr.heap.size, 1, none⟩)); (have p4' := hb5.size); (try simp [go_sem] at p0 p1' p2' p3' p4')); (first | refine hK.out _ _ ?_ (fun hHeld2 => ?_) | (go_wp2_with fail; refine hK.out _ _ ?_ (fun hHeld2 => ?_))); (focus ((try dsimp only); (go_split_ands; (repeat' with_reducible apply And.intro) <;> first | with_reducible assumption | ((repeat (first | with_reducible exact Below.refl _ _ | with_reducible assumption | with_reducible refine balloc ?_ _ | with_reducible refine bdrew ?_ | with_reducible refine below_drewN ?_ _ | with_reducible refine bset ?_ ?_ _ | with_reducible exact Nat.le_refl _ | with_reducible refine bsize ?_ | (dsimp only; refine Nat.le_trans ?_ (Nat.le_add_right _ _)) | with_reducible refine Nat.le_trans ?_ (Nat.le_add_right _ _) | (with_reducible refine bstep ?_ (by assumption)))); done) | (simp [go_sem]; done) | (simp [go_sem, *]; done) | go_keep))); clear hK K; (try clear hHeld1); (try simp only [Act.put, List.setIfInBounds_toArray, List.set_cons_zero, List.set_cons_succ]))
            (refine wpAnyH_take (i := 10) (oi := { dst := some 22, op := Op.move (Operand.tmp 32), type := 38, pos := "l6_well.go:76", after := #[{ on := 9, ground := Ground.data }], guard := none }) (v := ?_) rfl (by kernel_rfl) (by kernel_rfl) (by kernel_rfl) (fun _ _ _ h => h) (Or.inl ⟨by rfl, ?_⟩) (by assumption) ?_; rotate_left; (focus (intro w hSw; (try dsimp only at hSw); go_simp; try with_reducible rfl)); (try simp only [Act.put, List.setIfInBounds_toArray, List.set_cons_zero, List.set_cons_succ]))
            (refine wpAnyH_take (i := 11) (oi := { dst := some 33, op := Op.extract (Operand.tmp 22) 0, type := 29, pos := "l6_well.go:76", after := #[{ on := 10, ground := Ground.data }], guard := none }) (v := ?_) rfl (by kernel_rfl) (by kernel_rfl) (by kernel_rfl) (fun _ _ _ h => h) (Or.inl ⟨by rfl, ?_⟩) (by assumption) ?_; rotate_left; (focus (intro w hSw; (try dsimp only at hSw); go_simp; try with_reducible rfl)); (try simp only [Act.put, List.setIfInBounds_toArray, List.set_cons_zero, List.set_cons_succ]))
            (refine wpAnyH_take (i := 12) (oi := { dst := some 34, op := Op.extract (Operand.tmp 22) 1, type := 4, pos := "l6_well.go:76", after := #[{ on := 10, ground := Ground.data }, { on := 14, ground := Ground.gcOnly Departure.lateStores }], guard := none }) (v := ?_) rfl (by kernel_rfl) (by kernel_rfl) (by kernel_rfl) (fun _ _ _ h => h) (Or.inl ⟨by rfl, ?_⟩) (by assumption) ?_; rotate_left; (focus (intro w hSw; (try dsimp only at hSw); go_simp; try with_reducible rfl)); (try simp only [Act.put, List.setIfInBounds_toArray, List.set_cons_zero, List.set_cons_succ]))
            (refine wpAnyH_ready (rs := [14]) (by kernel_rfl) (by simp) ?_; refine AllReadyH.cons (o := { dst := none, op := Op.store 29 (Operand.tmp 7) (Operand.tmp 33), type := 0, pos := "l6_well.go:76", after := #[{ on := 13, ground := Ground.data }, { on := 11, ground := Ground.data }, { on := 9, ground := Ground.chain }, { on := 0, ground := Ground.phase }, { on := 1, ground := Ground.phase }, { on := 2, ground := Ground.phase }, { on := 3, ground := Ground.phase }, { on := 4, ground := Ground.phase }, { on := 5, ground := Ground.phase }, { on := 6, ground := Ground.phase }, { on := 7, ground := Ground.phase }, { on := 8, ground := Ground.phase }, { on := 9, ground := Ground.phase }, { on := 10, ground := Ground.phase }, { on := 11, ground := Ground.phase }, { on := 12, ground := Ground.textOnly Departure.lateStores }, { on := 13, ground := Ground.phase }], guard := none }) rfl (fun K hK => ?_) AllReadyH.nil; go_simp; skip; (first | refine hK.out _ _ ?_ (fun hHeld3 => ?_) | (go_wp2_with fail; refine hK.out _ _ ?_ (fun hHeld3 => ?_))); (focus ((try dsimp only); (go_split_ands; (repeat' with_reducible apply And.intro) <;> first | with_reducible assumption | ((repeat (first | with_reducible exact Below.refl _ _ | with_reducible assumption | with_reducible refine balloc ?_ _ | with_reducible refine bdrew ?_ | with_reducible refine below_drewN ?_ _ | with_reducible refine bset ?_ ?_ _ | with_reducible exact Nat.le_refl _ | with_reducible refine bsize ?_ | (dsimp only; refine Nat.le_trans ?_ (Nat.le_add_right _ _)) | with_reducible refine Nat.le_trans ?_ (Nat.le_add_right _ _) | (with_reducible refine bstep ?_ (by assumption)))); done) | (simp [go_sem]; done) | (simp [go_sem, *]; done) | go_keep))); clear hK K; (try clear hHeld2); (try simp only [Act.put, List.setIfInBounds_toArray, List.set_cons_zero, List.set_cons_succ]))
            (refine wpAnyH_take (i := 15) (oi := { dst := some 8, op := Op.assign (Operand.tmp 34), type := 4, pos := "l6_well.go:76", after := #[{ on := 12, ground := Ground.data }, { on := 14, ground := Ground.chain }, { on := 0, ground := Ground.phase }, { on := 1, ground := Ground.phase }, { on := 2, ground := Ground.phase }, { on := 3, ground := Ground.phase }, { on := 4, ground := Ground.phase }, { on := 5, ground := Ground.phase }, { on := 6, ground := Ground.phase }, { on := 7, ground := Ground.phase }, { on := 8, ground := Ground.phase }, { on := 9, ground := Ground.phase }, { on := 10, ground := Ground.phase }, { on := 11, ground := Ground.phase }, { on := 12, ground := Ground.phase }, { on := 13, ground := Ground.phase }, { on := 14, ground := Ground.phase }], guard := none }) (v := ?_) rfl (by kernel_rfl) (by kernel_rfl) (by kernel_rfl) (fun _ _ _ h => h) (Or.inl ⟨by rfl, ?_⟩) (by assumption) ?_; rotate_left; (focus (intro w hSw; (try dsimp only at hSw); go_simp; try with_reducible rfl)); (try simp only [Act.put, List.setIfInBounds_toArray, List.set_cons_zero, List.set_cons_succ]))
            refine wpAnyH_done (by kernel_rfl) ?_ _
          all_goals (try refine NoPanic.normal ?_)
          all_goals (go_wp2_with fail; go_meet)
          all_goals refine ⟨_, rfl, rfl, ?_, ?_, ?_, ?_⟩
          all_goals first | ((repeat (first | with_reducible exact Below.refl _ _ | with_reducible assumption | with_reducible refine balloc ?_ _ | with_reducible refine bdrew ?_ | with_reducible refine below_drewN ?_ _ | with_reducible refine bset ?_ ?_ _ | with_reducible exact Nat.le_refl _ | with_reducible refine bsize ?_ | (dsimp only; refine Nat.le_trans ?_ (Nat.le_add_right _ _)) | with_reducible refine Nat.le_trans ?_ (Nat.le_add_right _ _) | (with_reducible refine bstep ?_ (by assumption)))); done) | (simp [go_sem, p0, p1', p2', p3', p4']; done) | (simp [go_sem, p0, p1', p2', p3']; done) | (simp; omega) | omega
        case rest =>
          obtain ⟨gg, rfl, rfl, h0, h1, hgs, hgb⟩ := hcut
          clear d0 d1 e0 e1 HL zq wq1 wq2
          replace s0 := keepa hgb hs s0
          replace s1 := keepa hgb hs s1
          replace s2 := keepf hgb hs s2
          replace s3 := keepf hgb hs s3
          replace hs := Nat.lt_of_lt_of_le hs hgb.size
          have hbel4 := bstep hbel hgb
          clear hgb hbel
          go_wp2_with fail
          refine (HC.out _).mono ?_
          rintro e w6 ⟨rfl, hb6⟩
          replace s0 := keepa hb6 hs s0
          replace s1 := keepa hb6 hs s1
          replace s2 := keepf hb6 hs s2
          replace s3 := keepf hb6 hs s3
          replace hs := Nat.lt_of_lt_of_le hs hb6.size
          replace h0 := keepa hb6 hgs h0
          replace h1 := keepa hb6 hgs h1
          replace hgs := Nat.lt_of_lt_of_le hgs hb6.size
          have hbel6 := bstep hbel4 hb6
          clear hb6 hbel4 HC
          by_cases hc : 0 < C
          · have hM : Hid (M = (gx, gy)) := Lib.hid (by rw [hmx2.out, if_pos hc])
            clear hmx2
            go_wp2
            go_roundw
            case rel =>
              refine ⟨k + 1, M, by omega, by go_num, hn, ham2, ?_, ?_, ?_, ?_, ?_, ?_⟩
              all_goals (try rw [hM.out])
              all_goals first | ((repeat (first | with_reducible exact Below.refl _ _ | with_reducible assumption | with_reducible refine balloc ?_ _ | with_reducible refine bdrew ?_ | with_reducible refine below_drewN ?_ _ | with_reducible refine bset ?_ ?_ _ | with_reducible exact Nat.le_refl _ | with_reducible refine bsize ?_ | (dsimp only; refine Nat.le_trans ?_ (Nat.le_add_right _ _)) | with_reducible refine Nat.le_trans ?_ (Nat.le_add_right _ _) | (with_reducible refine bstep ?_ (by assumption)))); done) | (simp [go_sem, s0, s1, s2, s3, hs]; done) | (simp; omega)
            case measure => simp [intOf]; omega
          · have hM : Hid (M = (m1, m2)) := Lib.hid (by rw [hmx2.out, if_neg hc])
            clear hmx2
            go_wp2
            go_roundw
            case rel =>
              refine ⟨k + 1, M, by omega, by go_num, hn, ham2, ?_, ?_, ?_, ?_, ?_, ?_⟩
              all_goals (try rw [hM.out])
              all_goals first | ((repeat (first | with_reducible exact Below.refl _ _ | with_reducible assumption | with_reducible refine balloc ?_ _ | with_reducible refine bdrew ?_ | with_reducible refine below_drewN ?_ _ | with_reducible refine bset ?_ ?_ _ | with_reducible exact Nat.le_refl _ | with_reducible refine bsize ?_ | (dsimp only; refine Nat.le_trans ?_ (Nat.le_add_right _ _)) | with_reducible refine Nat.le_trans ?_ (Nat.le_add_right _ _) | (with_reducible refine bstep ?_ (by assumption)))); done) | (simp [go_sem, s0, s1, s2, s3, hs]; done) | (simp; omega)
            case measure => simp [intOf]; omega
      · have hkt : k = G.length := by have := hGlen.out; omega
        have hfin : m = R := by
          have h := hfold.out
          rw [hkt, List.drop_length] at h
          exact h
        subst hfin
        replace q0 := keepa hbel qz q0
        replace q1 := keepa hbel qz q1
        replace q2 := keepf hbel qz q2
        replace q3 := keepf hbel qz q3
        replace qz := Nat.lt_of_lt_of_le qz hbel.size
        have hfb := bstep ha3 hbel
        have i9 : ¬ ((k : Int) + 1 < (P.length : Int)) := by omega
        clear hfold hm hR0 hgn hkt
        obtain ⟨m1, m2⟩ := m
        simp only at s0 s1 ⊢
        go_wp2
        refine bodyPost_ret (v := .tuple #[.agg #[.int .i64 m1, .int .i64 m2], .bool true]) (by simp only [results, Try.results20]; go_simp) rfl ⟨rfl, ?_⟩
        (repeat (first | with_reducible exact Below.refl _ _ | with_reducible assumption | with_reducible refine balloc ?_ _ | with_reducible refine bdrew ?_ | with_reducible refine below_drewN ?_ _ | with_reducible refine bset ?_ ?_ _ | with_reducible exact Nat.le_refl _ | with_reducible refine bsize ?_ | (dsimp only; refine Nat.le_trans ?_ (Nat.le_add_right _ _)) | with_reducible refine Nat.le_trans ?_ (Nat.le_add_right _ _) | (with_reducible refine bstep ?_ (by assumption))))
end Go.Proofs.Ytmdeaphffnolhaa
