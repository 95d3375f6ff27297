/- Roads: the longest gap, of the program. -/
import Derived.Test.YtngoibohkckgpaaRoadH
import Derived.Deep.RegionHeld3
import Derived.Deep.DeepCutAuto
namespace Go.Proofs.Ytngoibohkckgpaa
open Go.ChangeShapes Go.WideShapes Go.ChangeAt Go.RowKit Go.Joins
set_option maxRecDepth 100000
set_option linter.unusedVariables false
set_option linter.unusedSimpArgs false


theorem lgc_impl (n d p q : Int) (h1 : amB n d = true) (h2 : amB p q = true) (w : World) :
    Calls Try.prog 80 #[.agg #[.int .i64 n, .int .i64 d], .agg #[.int .i64 p, .int .i64 q]] w fun e w' => e = .returned (.int .i64 (cmI n d p q)) ∧ Below w.heap.size w w' := by
  have a := am_of _ _ h1
  have b := am_of _ _ h2
  have HC := Lib.hid (fun W => compare_impl n d p q (by have := a.a; have := a.b; omega) (by have := a.c; have := a.d; omega) (by have := b.a; have := b.b; omega) (by have := b.c; have := b.d; omega) W)
  go_enter Try.func80, Try.ntmps80
  go_wp2_with fail
  refine (HC.out _).mono ?_
  rintro e w1 ⟨rfl, hb1⟩
  go_wp2
  go_ret
  refine ⟨rfl, ?_⟩
  (repeat (first | with_reducible exact Below.refl _ _ | with_reducible assumption | with_reducible refine balloc ?_ _ | with_reducible refine bdrew ?_ | with_reducible refine below_drewN ?_ _ | with_reducible refine bset ?_ ?_ _ | with_reducible exact Nat.le_refl _ | with_reducible refine bsize ?_ | (dsimp only; refine Nat.le_trans ?_ (Nat.le_add_right _ _)) | with_reducible refine Nat.le_trans ?_ (Nat.le_add_right _ _) | (with_reducible refine bstep ?_ (by assumption))))
set_option maxHeartbeats 3200000 in
theorem maxFunc_impl (a : Addr) (cap : Nat) (g : Int × Int) (t : List (Int × Int)) (w : World) (hL : LiesG 2 fAmt w a cap (g :: t)) (hall : ∀ x ∈ g :: t, amB x.1 x.2 = true) :
    Calls Try.prog 78 #[.slice (some a) (g :: t).length cap, .func (.func 80) #[] #[]] w fun e w' => e = .returned (.agg #[.int .i64 (lgF t g).1, .int .i64 (lgF t g).2]) ∧ Below w.heap.size w w' := by
  have hlc := hL.hlc
  have hcap := hL.hcap
  have hlen : (g :: t).length = t.length + 1 := by simp
  have h0 := hL.hcell 0 g rfl 0 g.1 rfl
  have h1 := hL.hcell 0 g rfl 1 g.2 rfl
  have hnx := Lib.hid (fun k x (hx : t[k]? = some x) m => (show lgF (t.drop k) m = lgF (t.drop (k + 1)) (mxP m x) by
    have hk := (List.getElem?_eq_some_iff.1 hx).1
    rw [List.drop_eq_getElem_cons hk]
    rw [List.getElem?_eq_getElem hk] at hx
    injection hx with hx
    rw [hx]; rfl))
  obtain ⟨R, hR⟩ : ∃ R, lgF t g = R := ⟨_, rfl⟩
  have hR0 : Hid (lgF (t.drop 0) g = R) := Lib.hid hR
  rw [hR]
  clear hR
  rw [hlen] at hlc ⊢
  have hgt := Lib.hid (fun k x (hx : t[k]? = some x) => (show (g :: t)[k + 1]? = some x by rw [List.getElem?_cons_succ]; exact hx))
  have ha0 : a.add (0 * 2 + 0) = a := by unfold Addr.add; simp
  rw [ha0] at h0
  have h1' : w.cell? ⟨a.block, a.off + 1, none⟩ = some (.int .i64 g.2) := by
    have e : a.add (0 * 2 + 1) = ⟨a.block, a.off + 1, none⟩ := by unfold Addr.add; simp
    rw [e] at h1
    exact h1
  clear h1 ha0
  have g0 := hall g (List.mem_cons_self ..)
  have za : a.block < w.heap.size := cell_lt h0
  have za1 : (⟨a.block, a.off + 1, none⟩ : Addr).block < w.heap.size := za
  have i0 : ¬ ((t.length : Int) + 1 < 1) := by omega
  go_enter Try.func78, Try.ntmps78
  go_wp2
  go_loopw [6] (fun i wr => ∃ (k : Nat) (m : Int × Int), k ≤ t.length ∧ i = .int .i64 ((k : Int) + 1) ∧ Hid (lgF (t.drop k) m = R) ∧ Hid (amB m.1 m.2 = true) ∧ wr.cell? ⟨w.heap.size + 1, 0, none⟩ = some (.int .i64 m.1) ∧ wr.cell? ⟨w.heap.size + 1, 1, none⟩ = some (.int .i64 m.2) ∧
      wr.frozen? ⟨w.heap.size + 1, 0, none⟩ = false ∧ wr.frozen? ⟨w.heap.size + 1, 1, none⟩ = false ∧ wr.cell? ⟨w.heap.size, 0, none⟩ = some (.int .i64 0) ∧ wr.cell? ⟨w.heap.size, 1, none⟩ = some (.int .i64 0) ∧
      wr.frozen? ⟨w.heap.size, 0, none⟩ = false ∧ wr.frozen? ⟨w.heap.size, 1, none⟩ = false ∧ w.heap.size + 1 < wr.heap.size ∧ Below w.heap.size w wr) (fun i _ => t.length + 1 - (intOf i).toNat)
  case atStart =>
    refine ⟨0, g, Nat.zero_le _, by simp, hR0, Lib.hid g0, ?_, ?_, ?_, ?_, ?_, ?_, ?_, ?_, ?_, ?_⟩
    all_goals first | ((repeat (first | with_reducible exact Below.refl _ _ | with_reducible assumption | with_reducible refine balloc ?_ _ | with_reducible refine bdrew ?_ | with_reducible refine below_drewN ?_ _ | with_reducible refine bset ?_ ?_ _ | with_reducible exact Nat.le_refl _ | with_reducible refine bsize ?_ | (dsimp only; refine Nat.le_trans ?_ (Nat.le_add_right _ _)) | with_reducible refine Nat.le_trans ?_ (Nat.le_add_right _ _) | (with_reducible refine bstep ?_ (by assumption)))); done) | (simp [go_sem]; done)
  case round =>
    clear h0 h1'
    obtain ⟨k, m, hk, rfl, hfold, hm, s0, s1, s2, s3, r0, r1, r2, r3, hs, hbel⟩ := hrel
    have hs0 : w.heap.size < wr.heap.size := by omega
    by_cases hlt : k < t.length
    · obtain ⟨x, hx⟩ : ∃ x, t[k]? = some x := ⟨_, List.getElem?_eq_getElem hlt⟩
      have hL2 := liesG_below hL hbel
      have hgx := hgt.out k x hx
      have e0 := hL2.hcell (k + 1) x hgx 0 x.1 rfl
      rw [Nat.add_zero] at e0
      have e1 : wr.cell? ⟨(a.add ((k + 1) * 2)).block, (a.add ((k + 1) * 2)).off + 1, none⟩ = some (.int .i64 x.2) := by
        have h := hL2.hcell (k + 1) x hgx 1 x.2 rfl
        rw [← Deep.add_add] at h
        exact h
      have z0 : (a.add ((k + 1) * 2)).block < wr.heap.size := cell_lt e0
      have hax := hall x (List.mem_of_getElem? hgx)
      have HC := Lib.hid (fun W => lgc_impl x.1 x.2 m.1 m.2 hax hm.out W)
      have hn := hnx.out k x hx m
      rw [hfold.out] at hn
      have hmx : mxP m x = if 0 < cmI x.1 x.2 m.1 m.2 then x else m := rfl
      obtain ⟨C, hC⟩ : ∃ C, cmI x.1 x.2 m.1 m.2 = C := ⟨_, rfl⟩
      rw [hC] at HC hmx
      clear hC hL2 hgx hx hfold
      have i1 : (0 : Int) ≤ (k : Int) + 1 := by omega
      have i2 : (k : Int) + 1 < (t.length : Int) + 1 := by omega
      have i3 : ((k : Int) + 1).toNat = k + 1 := by omega
      have ham2 : Hid (amB (mxP m x).1 (mxP m x).2 = true) := Lib.hid (by rw [hmx]; split <;> first | exact hax | exact hm.out)
      replace hn := Lib.hid hn.symm
      clear hm hax
      generalize hMM : mxP m x = M at *
      have hmx2 := Lib.hid hmx
      clear hmx hMM
      obtain ⟨x, y⟩ := x
      obtain ⟨m1, m2⟩ := m
      simp only at e0 e1 s0 s1 HC
      go_upto_region 7 with fail
      refine wp_region_noPanic ?_
      refine wp_region_held_drew (S := (fun W => Below wr.heap.size wr W ∧ W.cell? (a.add ((k + 1) * 2)) = some (.int .i64 x) ∧ W.cell? ⟨(a.add ((k + 1) * 2)).block, (a.add ((k + 1) * 2)).off + 1, none⟩ = some (.int .i64 y) ∧ W.cell? ⟨w.heap.size + 1, 0, none⟩ = some (.int .i64 m1) ∧ W.cell? ⟨w.heap.size + 1, 1, none⟩ = some (.int .i64 m2))) (by kernel_rfl) ?_ (fun hHeld0 => ?_)
      · (try dsimp only); (go_split_ands; (repeat' with_reducible apply And.intro) <;> first | with_reducible assumption | ((repeat (first | with_reducible exact Below.refl _ _ | with_reducible assumption | with_reducible refine balloc ?_ _ | with_reducible refine bdrew ?_ | with_reducible refine below_drewN ?_ _ | with_reducible refine bset ?_ ?_ _ | with_reducible exact Nat.le_refl _ | with_reducible refine bsize ?_ | (dsimp only; refine Nat.le_trans ?_ (Nat.le_add_right _ _)) | with_reducible refine Nat.le_trans ?_ (Nat.le_add_right _ _) | (with_reducible refine bstep ?_ (by assumption)))); done) | (simp [go_sem]; done) | (simp [go_sem, *]; done) | go_keep)
      (refine wpAnyH_take (i := 0) (oi := { dst := some 20, op := Op.move (Operand.tmp 1), type := 65, pos := "sort.go:115", after := #[], guard := none }) (v := ?_) rfl (by kernel_rfl) (by kernel_rfl) (by kernel_rfl) (fun _ _ _ h => h) (Or.inl ⟨by rfl, ?_⟩) (by assumption) ?_; rotate_left; (focus (intro w hSw; (try dsimp only at hSw); go_simp; try with_reducible rfl)); (try simp only [Act.put, List.setIfInBounds_toArray, List.set_cons_zero, List.set_cons_succ]))
      (refine wpAnyH_take (i := 1) (oi := { dst := some 21, op := Op.move (Operand.tmp 0), type := 32, pos := "sort.go:115", after := #[], guard := none }) (v := ?_) rfl (by kernel_rfl) (by kernel_rfl) (by kernel_rfl) (fun _ _ _ h => h) (Or.inl ⟨by rfl, ?_⟩) (by assumption) ?_; rotate_left; (focus (intro w hSw; (try dsimp only at hSw); go_simp; try with_reducible rfl)); (try simp only [Act.put, List.setIfInBounds_toArray, List.set_cons_zero, List.set_cons_succ]))
      (refine wpAnyH_take (i := 2) (oi := { dst := some 22, op := Op.move (Operand.tmp 6), type := 3, pos := "sort.go:115", after := #[], guard := none }) (v := ?_) rfl (by kernel_rfl) (by kernel_rfl) (by kernel_rfl) (fun _ _ _ h => h) (Or.inl ⟨by rfl, ?_⟩) (by assumption) ?_; rotate_left; (focus (intro w hSw; (try dsimp only at hSw); go_simp; try with_reducible rfl)); (try simp only [Act.put, List.setIfInBounds_toArray, List.set_cons_zero, List.set_cons_succ]))
      (refine wpAnyH_take (i := 3) (oi := { dst := some 23, op := Op.indexAddr 32 (Operand.tmp 21) (Operand.tmp 22), type := 0, pos := "sort.go:115", after := #[{ on := 1, ground := Ground.data }, { on := 2, ground := Ground.data }], guard := none }) (v := ?_) rfl (by kernel_rfl) (by kernel_rfl) (by kernel_rfl) (fun _ _ _ h => h) (Or.inl ⟨by rfl, ?_⟩) (by assumption) ?_; rotate_left; (focus (intro w hSw; (try dsimp only at hSw); go_simp; try with_reducible rfl)); (try simp only [Act.put, List.setIfInBounds_toArray, List.set_cons_zero, List.set_cons_succ]))
      (refine wpAnyH_take (i := 4) (oi := { dst := some 24, op := Op.load 31 (Operand.tmp 23), type := 31, pos := "sort.go:115", after := #[{ on := 3, ground := Ground.data }], guard := none }) (v := ?_) rfl (by kernel_rfl) (by kernel_rfl) (by kernel_rfl) (fun _ _ _ h => h) (Or.inl ⟨by rfl, ?_⟩) (by assumption) ?_; rotate_left; (focus (intro w hSw; (try dsimp only at hSw); go_simp; try with_reducible rfl)); (try simp only [Act.put, List.setIfInBounds_toArray, List.set_cons_zero, List.set_cons_succ]))
      (refine wpAnyH_take (i := 5) (oi := { dst := some 25, op := Op.load 31 (Operand.tmp 5), type := 31, pos := "sort.go:115", after := #[], guard := none }) (v := ?_) rfl (by kernel_rfl) (by kernel_rfl) (by kernel_rfl) (fun _ _ _ h => h) (Or.inl ⟨by rfl, ?_⟩) (by assumption) ?_; rotate_left; (focus (intro w hSw; (try dsimp only at hSw); go_simp; try with_reducible rfl)); (try simp only [Act.put, List.setIfInBounds_toArray, List.set_cons_zero, List.set_cons_succ]))
      (refine wpAnyH_ready (rs := [6]) (by kernel_rfl) (by simp) ?_; refine AllReadyH.cons (o := { dst := some 26, op := Op.call { callee := Callee.value (Operand.tmp 20), args := #[Operand.tmp 24, Operand.tmp 25], argTypes := #[31, 31] }, type := 3, pos := "sort.go:115", after := #[{ on := 0, ground := Ground.data }, { on := 4, ground := Ground.data }, { on := 5, ground := Ground.data }], guard := none }) rfl (fun K hK => ?_) AllReadyH.nil; go_simp; (refine (HC.out _).mono ?_; rintro e w3 ⟨rfl, hb3⟩; (have f3 : Below wr.heap.size wr w3 := bstep (by first | with_reducible assumption | ((repeat (first | with_reducible exact Below.refl _ _ | with_reducible assumption | with_reducible refine balloc ?_ _ | with_reducible refine bdrew ?_ | with_reducible refine below_drewN ?_ _ | with_reducible refine bset ?_ ?_ _ | with_reducible exact Nat.le_refl _ | with_reducible refine bsize ?_ | (dsimp only; refine Nat.le_trans ?_ (Nat.le_add_right _ _)) | with_reducible refine Nat.le_trans ?_ (Nat.le_add_right _ _) | (with_reducible refine bstep ?_ (by assumption)))); done)) hb3); (have k0 := (f3.cell z0).trans e0); (have k1 := (f3.cell (p := ⟨(a.add ((k + 1) * 2)).block, (a.add ((k + 1) * 2)).off + 1, none⟩) z0).trans e1); (have k2 := keepa f3 hs s0); (have k3 := keepa f3 hs s1)); (first | refine hK.out _ _ ?_ (fun hHeld1 => ?_) | (go_wp2_with fail; refine hK.out _ _ ?_ (fun hHeld1 => ?_))); (focus ((try dsimp only); (go_split_ands; (repeat' with_reducible apply And.intro) <;> first | with_reducible assumption | ((repeat (first | with_reducible exact Below.refl _ _ | with_reducible assumption | with_reducible refine balloc ?_ _ | with_reducible refine bdrew ?_ | with_reducible refine below_drewN ?_ _ | with_reducible refine bset ?_ ?_ _ | with_reducible exact Nat.le_refl _ | with_reducible refine bsize ?_ | (dsimp only; refine Nat.le_trans ?_ (Nat.le_add_right _ _)) | with_reducible refine Nat.le_trans ?_ (Nat.le_add_right _ _) | (with_reducible refine bstep ?_ (by assumption)))); done) | (simp [go_sem]; done) | (simp [go_sem, *]; done) | go_keep))); clear hK K; (try clear hHeld0); (try simp only [Act.put, List.setIfInBounds_toArray, List.set_cons_zero, List.set_cons_succ]))
      (refine wpAnyH_take (i := 7) (oi := { dst := some 27, op := Op.binOp BinOp.gtr 3 (Operand.tmp 26) (Operand.const (Value.int IntKind.i64 0)) 3, type := 4, pos := "sort.go:115", after := #[{ on := 6, ground := Ground.data }], guard := none }) (v := ?_) rfl (by kernel_rfl) (by kernel_rfl) (by kernel_rfl) (fun _ _ _ h => h) (Or.inl ⟨by rfl, ?_⟩) (by assumption) ?_; rotate_left; (focus (intro w hSw; (try dsimp only at hSw); go_simp; try with_reducible rfl)); (try simp only [Act.put, List.setIfInBounds_toArray, List.set_cons_zero, List.set_cons_succ]))
      refine wpAnyH_done (by kernel_rfl) ?_ _
      all_goals (try refine NoPanic.normal ?_)
      have t2 := keepf f3 hs s2
      have t3 := keepf f3 hs s3
      have u0 := keepa f3 hs0 r0
      have u1 := keepa f3 hs0 r1
      have u2 := keepf f3 hs0 r2
      have u3 := keepf f3 hs0 r3
      have v0 := Nat.lt_of_lt_of_le hs f3.size
      have v1 := Nat.lt_of_lt_of_le hs0 f3.size
      have z1 := Nat.lt_of_lt_of_le z0 f3.size
      have hbel3 := bstep hbel f3
      clear s0 s1 s2 s3 r0 r1 r2 r3 e0 e1 hbel hb3 HC z0 hs0 hs
      by_cases hc : 0 < C
      · have hM : Hid (M = (x, y)) := Lib.hid (by rw [hmx2.out, if_pos hc])
        clear hmx2
        go_wp2
        go_roundw
        case rel =>
          refine ⟨k + 1, M, by omega, by go_num, hn, ham2, ?_, ?_, ?_, ?_, ?_, ?_, ?_, ?_, ?_, ?_⟩
          all_goals (try rw [hM.out])
          all_goals first | ((repeat (first | with_reducible exact Below.refl _ _ | with_reducible assumption | with_reducible refine balloc ?_ _ | with_reducible refine bdrew ?_ | with_reducible refine below_drewN ?_ _ | with_reducible refine bset ?_ ?_ _ | with_reducible exact Nat.le_refl _ | with_reducible refine bsize ?_ | (dsimp only; refine Nat.le_trans ?_ (Nat.le_add_right _ _)) | with_reducible refine Nat.le_trans ?_ (Nat.le_add_right _ _) | (with_reducible refine bstep ?_ (by assumption)))); done) | (simp [go_sem, k2, k3, t2, t3, u0, u1, u2, u3, v0, v1]; done) | (simp; omega)
        case measure => simp [intOf]; omega
      · have hM : Hid (M = (m1, m2)) := Lib.hid (by rw [hmx2.out, if_neg hc])
        clear hmx2
        go_wp2
        go_roundw
        case rel =>
          refine ⟨k + 1, M, by omega, by go_num, hn, ham2, ?_, ?_, ?_, ?_, ?_, ?_, ?_, ?_, ?_, ?_⟩
          all_goals (try rw [hM.out])
          all_goals first | ((repeat (first | with_reducible exact Below.refl _ _ | with_reducible assumption | with_reducible refine balloc ?_ _ | with_reducible refine bdrew ?_ | with_reducible refine below_drewN ?_ _ | with_reducible refine bset ?_ ?_ _ | with_reducible exact Nat.le_refl _ | with_reducible refine bsize ?_ | (dsimp only; refine Nat.le_trans ?_ (Nat.le_add_right _ _)) | with_reducible refine Nat.le_trans ?_ (Nat.le_add_right _ _) | (with_reducible refine bstep ?_ (by assumption)))); done) | (simp [go_sem, k2, k3, t2, t3, u0, u1, u2, u3, v0, v1]; done) | (simp; omega)
        case measure => simp [intOf]; omega
    · have hkt : k = t.length := by omega
      have hfin : m = R := by
        have h := hfold.out
        rw [hkt, List.drop_length] at h
        exact h
      subst hfin
      subst hkt
      clear hfold hm hR0 hnx
      obtain ⟨m1, m2⟩ := m
      simp only at s0 s1 ⊢
      go_wp2
      refine bodyPost_ret (v := .agg #[.int .i64 m1, .int .i64 m2]) (by simp only [results, Try.results78]; go_simp) rfl ⟨rfl, ?_⟩
      (repeat (first | with_reducible exact Below.refl _ _ | with_reducible assumption | with_reducible refine balloc ?_ _ | with_reducible refine bdrew ?_ | with_reducible refine below_drewN ?_ _ | with_reducible refine bset ?_ ?_ _ | with_reducible exact Nat.le_refl _ | with_reducible refine bsize ?_ | (dsimp only; refine Nat.le_trans ?_ (Nat.le_add_right _ _)) | with_reducible refine Nat.le_trans ?_ (Nat.le_add_right _ _) | (with_reducible refine bstep ?_ (by assumption))))

end Go.Proofs.Ytngoibohkckgpaa
